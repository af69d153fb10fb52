import PyProof.Rows.All
import Wide.All
import OpenK.AllK
import Wide.FinOn
import HandS.ForMost
import HandS.Wide
import HandS.Property
import HandS.Defaults
import HandS.MakeKw
import HandS.MakeKwOnly
import HandS.Flow
import HandS.IsInst
import HandS.Gcd
import HandS.Conv
import HandS.TryOnly
import HandS.Style
import HandS.SortInts
import HandS.DictComp
import KE.KOpsOwn
import HandS.SlotsOwn
import PyProof.InstNe
import HandS.TryMany
import HandS.ExcInit
import HandS.ExcField
import HandS.ExcIs
import HandS.ExcOwn
import HandS.WordsExc
import KE.KExcIs
import HandS.Zip
import HandS.EndBits
import KE.RegMulBits
import HandS.Walk
import HandS.WideBits
import HandS.TupLe
import HandS.FStr
import HandS.Text
import PyProof.FitsInt
import PyProof.Rows.FinIter
import PyProof.Rows.StrSplitJoin
import HandS.Codes
import HandS.StrMore
import KE.IntTextLaws
import HandS.Deep
import PySem.Challenge.RW_rulesquares_k69_squares_are_read
set_option Elab.async false
set_option linter.all false
set_option maxRecDepth 100000
set_option maxHeartbeats 2000000
/-! A layer of our own over HandS: every reading's rest has a name, and one tactic goes through it step by step. -/
namespace L3
open PySem L2 PyProof.Rows

/-! ### heaps -/
/-- all that was tracked but p is as it was -/
def SB (p : Addr) (H H' : Hp) : Prop := ∀ a o, a ≠ p → H a = some o → H' a = some o
/-- not tracked -/
structure Fr (H : Hp) (q : Addr) : Prop where
  out : H q = none
theorem tr_same {H H' : Hp} {a : Addr} {o : HO} (e : Same H H') (h : H a = some o) : H' a = some o := e a o h
theorem tr_but {H H' : Hp} {a p : Addr} {o : HO} (e : SB p H H') (n : a ≠ p) (h : H a = some o) : H' a = some o := e a o n h
theorem ne_new {H : Hp} {q p : Addr} {o : HO} (h : Fr H q) (h' : H p = some o) : q ≠ p := fun e => by have h := h.out; rw [e, h'] at h; cases h
theorem ne_new' {H : Hp} {q p : Addr} {o : HO} (h : Fr H q) (h' : H p = some o) : p ≠ q := fun e => by have h := h.out; rw [← e, h'] at h; cases h
theorem same_upd {H : Hp} {p : Addr} {o : HO} (h : H p = none) : Same H (upd H p o) := fun b u e => by rw [upd_ne (ne_of_none e h)]; exact e
theorem sb_upd {H : Hp} {p : Addr} {o : HO} : SB p H (upd H p o) := fun b u n e => by rw [upd_ne n]; exact e
theorem SB.refl (p : Addr) (H : Hp) : SB p H H := fun _ _ _ h => h
theorem SB.trans {p : Addr} {H H1 H2 : Hp} (a : SB p H H1) (b : SB p H1 H2) : SB p H H2 := fun c o n h => b c o n (a c o n h)
theorem SB.of {p : Addr} {H H1 : Hp} (a : Same H H1) : SB p H H1 := fun c o _ h => a c o h
/-- new ahead, so what changed at p is nothing that was tracked -/
theorem SB.same {p : Addr} {H H1 H2 : Hp} (a : Same H H1) (h : Fr H p) (b : SB p H1 H2) : Same H H2 := fun c o q => b c o (ne_of_none q h.out) (a c o q)
theorem Same.back {H H1 : Hp} {p : Addr} (a : Same H H1) (h : H1 p = none) : H p = none := a.free h

/-! ### sizes of ints -/
def Sz (n : Nat) (i : Int) : Prop := i.natAbs < 2 ^ n
theorem Sz.mk {n : Nat} {i : Int} (h : i.natAbs < 2 ^ n) : Sz n i := h
theorem Sz.mul {a b : Nat} {i j : Int} (ha : Sz a i) (hb : Sz b j) : Sz (a + b) (i * j) := wide_lt ha hb
theorem Sz.add {a b : Nat} {i j : Int} (ha : Sz a i) (hb : Sz b j) : Sz (a + b + 1) (i + j) := by
  unfold Sz at *
  have h1 : (i + j).natAbs ≤ i.natAbs + j.natAbs := Int.natAbs_add_le i j
  have h2 : 2 ^ a ≤ 2 ^ (a + b) := Nat.pow_le_pow_right (by decide) (Nat.le_add_right _ _)
  have h3 : 2 ^ b ≤ 2 ^ (a + b) := Nat.pow_le_pow_right (by decide) (Nat.le_add_left _ _)
  rw [Nat.pow_succ]
  omega
theorem Sz.neg {a : Nat} {i : Int} (ha : Sz a i) : Sz a (-i) := by unfold Sz at *; rw [Int.natAbs_neg]; exact ha
theorem Sz.sub {a b : Nat} {i j : Int} (ha : Sz a i) (hb : Sz b j) : Sz (a + b + 1) (i - j) := by
  have := ha.add hb.neg
  rwa [← Int.sub_eq_add_neg] at this
theorem Sz.mono {a b : Nat} {i : Int} (ha : Sz a i) (h : a ≤ b) : Sz b i := Nat.lt_of_lt_of_le ha (Nat.pow_le_pow_right (by decide) h)
theorem Sz.le {a : Nat} {i j : Int} (h0 : 0 ≤ i) (h : i ≤ j) (hj : Sz a j) : Sz a i := by unfold Sz at *; omega
/-- an int between two bounds -/
theorem Sz.btw {a : Nat} {i m : Int} (h0 : -m ≤ i) (h : i ≤ m) (hj : Sz a m) : Sz a i := by unfold Sz at *; omega
theorem Sz.mod {a : Nat} {i j : Int} (h : 0 < j) (hj : Sz a j) : Sz a (i % j) := Sz.le (Int.emod_nonneg _ (by omega)) (Int.le_of_lt (Int.emod_lt_of_pos _ h)) hj
theorem Sz.div {a : Nat} {i j : Int} (h : 0 < j) (hi : 0 ≤ i) (ha : Sz a i) : Sz a (i / j) := Sz.le (Int.ediv_nonneg hi (by omega)) (Int.ediv_le_self _ hi) ha
theorem mul_ok {a b : Nat} {i j : Int} (ha : Sz a i) (hb : Sz b j) (h : a + b ≤ 999990) : IntMulOk i j :=
  (wide_mul (ha.mono (Nat.le_succ a)) (hb.mono (Nat.le_succ b)) (Nat.succ_pos _) (Nat.succ_pos _) (by omega)).ok
theorem mul_okl {i j : Int} (h : -(2 ^ 64) < i ∧ i < 2 ^ 64) : IntMulOk i j := CMul.ok (.inl h)
theorem mul_okr {i j : Int} (h : -(2 ^ 64) < j ∧ j < 2 ^ 64) : IntMulOk i j := CMul.ok (.inr h)
theorem div_ok {b : Nat} {i j : Int} (h : 0 < j) (hb : Sz b j) (h9 : b ≤ 8999) : CDivW i j := wide_div h (hb.mono (Nat.le_succ b)) (Nat.succ_pos _) (by omega)

section
variable {X : Cx}
/-! ### unions of operations -/
def rOr (r1 r2 : R2) : R2 := fun x y H Q => r1 x y H Q ∨ r2 x y H Q
theorem op_or2 {f : Value → Value → Sem Value} {r1 r2 : R2} (h1 : OpR X f r1) (h2 : OpR X f r2) : OpR X f (rOr r1 r2) := by
  rintro pins s σ H x y v u Q I rx ry (h | h)
  · exact h1 pins s σ H x y v u Q I rx ry h
  · exact h2 pins s σ H x y v u Q I rx ry h
def rAddI : R2 := rI0 fun i j => .int (i + j)
def rAddS : R2 := fun x y H Q => ∃ i j, x = .str i ∧ y = .str j ∧ i.length + j.length ≤ sizeLine ∧ Q (.str (i ++ j)) H
def rCatS (K : PySem.W.Frag) : R2 := fun x y H Q => ∃ l b xs zs, x = .ref l ∧ y = .ref b ∧ H l = some (.lst xs) ∧ H b = some (.lst zs) ∧ xs.length + zs.length ≤ sizeLine ∧ ∀ p, H p = none → Q (.ref p) (upd H p (.lst (xs ++ zs)))
theorem op_addI : OpR X (binaryOp .Add) rAddI := op_add
theorem op_addS : OpR X (binaryOp .Add) rAddS := op_add_str
theorem op_addU : OpR X (binaryOp .Add) (rOr rAddI (rOr rCat (rOr rAddS (rCatT X.K)))) := op_or2 op_addI (op_or2 op_cat (op_or2 op_addS op_catT))
def rSubI : R2 := rI0 fun i j => .int (i - j)
theorem op_subU : OpR X (binaryOp .Sub) rSubI := op_sub
def rMulI : R2 := rI IntMulOk fun i j => .int (i * j)
theorem op_mulI : OpR X (binaryOp .Mult) rMulI := opI fun _ _ _ _ _ _ _ hc q => mul_int q hc
theorem op_mulU : OpR X (binaryOp .Mult) (rOr rMulI rRep) := op_or2 op_mulI op_rep
def CMod (_ j : Int) : Prop := 0 < j
def rModI : R2 := rI CMod fun i j => .int (i % j)
theorem op_modU : OpR X (binaryOp .Mod) rModI := op_mod
def rDivI : R2 := rI CDivW fun i j => .int (i / j)
theorem op_fdivU : OpR X (binaryOp .FloorDiv) rDivI := op_fdivW
def rPowI : R2 := rI CPow fun i j => .int (i ^ j.toNat)
theorem op_powU : OpR X (binaryOp .Pow) rPowI := op_pow
theorem op_eqU (hu : X.A.units + 64 < cLine) : OpR X (compareOp .Eq) (rOr rEq (rEqD X.K)) := op_or2 op_eq (op_eqD hu)
theorem op_neU (hu : X.A.units + 64 < cLine) : OpR X (compareOp .NotEq) (rOr rNe (rNeD X.K)) := op_or2 op_ne (op_neD hu)
def rLtI : R2 := rI0 fun i j => .bl (decide (i < j))
def rLeI : R2 := rI0 fun i j => .bl (decide (i ≤ j))
def rGtI : R2 := rI0 fun i j => .bl (decide (j < i))
def rGeI : R2 := rI0 fun i j => .bl (decide (j ≤ i))
theorem op_ltU : OpR X (compareOp .Lt) rLtI := op_lt
theorem op_leU : OpR X (compareOp .LtE) rLeI := op_le
theorem op_gtU : OpR X (compareOp .Gt) rGtI := op_gt
theorem op_geU : OpR X (compareOp .GtE) rGeI := op_ge
def rIsN' : R2 := fun x y H Q => y = .non ∧ Q (.bl (decide (x = .non))) H
def rNotN' : R2 := fun x y H Q => y = .non ∧ Q (.bl (!decide (x = .non))) H
theorem op_isU : OpR X (compareOp .Is) rIsN' := op_isN
theorem op_isnotU : OpR X (compareOp .IsNot) rNotN' := op_notN
end

/-! ### what is left behind a step, named -/
section
variable {K : PySem.W.Frag} {C a p dx : Addr} {σ : L2.St} {H : Hp} {Q : VK} {D : Ends} {nx bk ct : L2.St → Hp → Prop} {rt : VK} {t u : TS} {te ta tb tc : TE} {c d : TT} {r r1 r2 : R2} {g : TG} {i j : Int} {x y v : V} {b : Bool} {P : Prop} {xs ys : List V} {fs : List (Str × V)} {f : Str} {sp : Sp} {E : XK} {tas : TA}

def IfS (b : Bool) (t u : TS) (D : Ends) (σ : L2.St) (H : Hp) : Prop := if b = true then t D σ H else u D σ H
theorem st_eq {σ' : L2.St} {t : TS} (e : σ = σ') (h : t D σ' H) : t D σ H := e ▸ h
theorem g_seq (h : t ⟨u ⟨nx, rt, bk, ct⟩, rt, bk, ct⟩ σ H) : tSeq t u ⟨nx, rt, bk, ct⟩ σ H := h
theorem g_next (h : nx σ H) : tNext ⟨nx, rt, bk, ct⟩ σ H := h
theorem g_brk (h : bk σ H) : tBreak ⟨nx, rt, bk, ct⟩ σ H := h
theorem g_cont (h : ct σ H) : tCont ⟨nx, rt, bk, ct⟩ σ H := h
theorem g_asg (h : te σ H fun x H1 => g x σ H1 nx) : tAsg te g ⟨nx, rt, bk, ct⟩ σ H := h
theorem g_ret (h : te σ H rt) : tRet te ⟨nx, rt, bk, ct⟩ σ H := h
theorem g_retN (h : rt .non H) : tRetN ⟨nx, rt, bk, ct⟩ σ H := h
theorem g_drop (h : te σ H fun _ H1 => nx σ H1) : tDrop te ⟨nx, rt, bk, ct⟩ σ H := h
theorem g_ifs (h : c σ H fun b H1 => IfS b t u ⟨nx, rt, bk, ct⟩ σ H1) : tIfS c t u ⟨nx, rt, bk, ct⟩ σ H := h
theorem ifs_T (h : t D σ H) : IfS true t u D σ H := h
theorem ifs_F (h : u D σ H) : IfS false t u D σ H := h
theorem ifs_y {dP : Decidable P} (e : P) (h : t D σ H) : IfS (decide P) t u D σ H := by rw [decide_eq_true e]; exact h
theorem ifs_n {dP : Decidable P} (e : ¬ P) (h : u D σ H) : IfS (decide P) t u D σ H := by rw [decide_eq_false e]; exact h
theorem ifs_2 {dP : Decidable P} (h1 : P → t D σ H) (h2 : ¬ P → u D σ H) : IfS (decide P) t u D σ H := by
  by_cases h : P
  · exact ifs_y h (h1 h)
  · exact ifs_n h (h2 h)
theorem ifs_b (h1 : b = true → t D σ H) (h2 : b = false → u D σ H) : IfS b t u D σ H := by
  cases b
  · exact h2 rfl
  · exact h1 rfl
theorem ifs_not (h : IfS b u t D σ H) : IfS (!b) t u D σ H := by
  cases b
  · exact h
  · exact h

/-! tests -/
def BlR (x : V) (H : Hp) (Q : Bool → Hp → Prop) : Prop := ∃ k, x = .bl k ∧ Q k H
theorem g_test {Q : Bool → Hp → Prop} (h : te σ H fun x H1 => BlR x H1 Q) : tTest te σ H Q := h
theorem g_tb {Q : Bool → Hp → Prop} (h : te σ H fun x H1 => BlR x H1 Q) : tB te σ H Q := h
theorem g_bl {Q : Bool → Hp → Prop} (h : Q b H) : BlR (.bl b) H Q := ⟨b, rfl, h⟩
def AndR (b : Bool) (u : TT) (σ : L2.St) (H : Hp) (Q : Bool → Hp → Prop) : Prop := if b = true then u σ H Q else Q false H
def OrR (b : Bool) (u : TT) (σ : L2.St) (H : Hp) (Q : Bool → Hp → Prop) : Prop := if b = true then Q true H else u σ H Q
def NotR (b : Bool) (H : Hp) (Q : Bool → Hp → Prop) : Prop := Q (!b) H
theorem g_tand {Q : Bool → Hp → Prop} (h : c σ H fun b H1 => AndR b d σ H1 Q) : tAnd c d σ H Q := h
theorem g_tor {Q : Bool → Hp → Prop} (h : c σ H fun b H1 => OrR b d σ H1 Q) : tOr c d σ H Q := h
theorem g_tnot {Q : Bool → Hp → Prop} (h : c σ H fun b H1 => NotR b H1 Q) : tNot c σ H Q := h
theorem and_T {Q : Bool → Hp → Prop} (h : d σ H Q) : AndR true d σ H Q := h
theorem and_F {Q : Bool → Hp → Prop} (h : Q false H) : AndR false d σ H Q := h
theorem and_y {Q : Bool → Hp → Prop} {dP : Decidable P} (e : P) (h : d σ H Q) : AndR (decide P) d σ H Q := by rw [decide_eq_true e]; exact h
theorem and_n {Q : Bool → Hp → Prop} {dP : Decidable P} (e : ¬ P) (h : Q false H) : AndR (decide P) d σ H Q := by rw [decide_eq_false e]; exact h
theorem and_2 {Q : Bool → Hp → Prop} {dP : Decidable P} (h1 : P → d σ H Q) (h2 : ¬ P → Q false H) : AndR (decide P) d σ H Q := by
  by_cases h : P
  · exact and_y h (h1 h)
  · exact and_n h (h2 h)
theorem and_b {Q : Bool → Hp → Prop} (h1 : b = true → d σ H Q) (h2 : b = false → Q false H) : AndR b d σ H Q := by
  cases b
  · exact h2 rfl
  · exact h1 rfl
theorem or_T {Q : Bool → Hp → Prop} (h : Q true H) : OrR true d σ H Q := h
theorem or_F {Q : Bool → Hp → Prop} (h : d σ H Q) : OrR false d σ H Q := h
theorem or_y {Q : Bool → Hp → Prop} {dP : Decidable P} (e : P) (h : Q true H) : OrR (decide P) d σ H Q := by rw [decide_eq_true e]; exact h
theorem or_n {Q : Bool → Hp → Prop} {dP : Decidable P} (e : ¬ P) (h : d σ H Q) : OrR (decide P) d σ H Q := by rw [decide_eq_false e]; exact h
theorem or_2 {Q : Bool → Hp → Prop} {dP : Decidable P} (h1 : P → Q true H) (h2 : ¬ P → d σ H Q) : OrR (decide P) d σ H Q := by
  by_cases h : P
  · exact or_y h (h1 h)
  · exact or_n h (h2 h)
theorem or_b {Q : Bool → Hp → Prop} (h1 : b = true → Q true H) (h2 : b = false → d σ H Q) : OrR b d σ H Q := by
  cases b
  · exact h2 rfl
  · exact h1 rfl
theorem not_T {Q : Bool → Hp → Prop} (h : Q false H) : NotR true H Q := h
theorem not_F {Q : Bool → Hp → Prop} (h : Q true H) : NotR false H Q := h
theorem not_y {Q : Bool → Hp → Prop} {dP : Decidable P} (e : P) (h : Q false H) : NotR (decide P) H Q := by rw [decide_eq_true e]; exact h
theorem not_n {Q : Bool → Hp → Prop} {dP : Decidable P} (e : ¬ P) (h : Q true H) : NotR (decide P) H Q := by rw [decide_eq_false e]; exact h
theorem not_b {Q : Bool → Hp → Prop} (h : Q (!b) H) : NotR b H Q := h
/-- a value's truth -/
def TruR (K : PySem.W.Frag) (x : V) (H : Hp) (Q : Bool → Hp → Prop) : Prop := ∃ k, TruV K x H k ∧ Q k H
def tTr (K : PySem.W.Frag) (te : TE) : TT := fun σ H Q => te σ H fun x H' => TruR K x H' Q
theorem g_ttr {Q : Bool → Hp → Prop} (h : te σ H fun x H1 => TruR K x H1 Q) : tTr K te σ H Q := h
theorem tru_bl {Q : Bool → Hp → Prop} (h : Q b H) : TruR K (.bl b) H Q := ⟨b, rfl, h⟩
theorem tru_int {Q : Bool → Hp → Prop} (h : Q (decide (i ≠ 0)) H) : TruR K (.int i) H Q := ⟨_, rfl, by
  have e : (i != 0) = decide (i ≠ 0) := by by_cases z : i = 0 <;> simp [z]
  rw [e]; exact h⟩
theorem tru_non {Q : Bool → Hp → Prop} (h : Q false H) : TruR K .non H Q := ⟨_, rfl, h⟩
theorem tru_lst {Q : Bool → Hp → Prop} (e : H a = some (.lst xs)) (h : Q (!xs.isEmpty) H) : TruR K (.ref a) H Q := ⟨_, .inl ⟨xs, SqL.of e, rfl⟩, h⟩
theorem tru_tup {Q : Bool → Hp → Prop} (e : H a = some (.tup xs)) (h : Q (!xs.isEmpty) H) : TruR K (.ref a) H Q := ⟨_, .inr (.inl ⟨xs, SqT.of e, rfl⟩), h⟩

/-! expressions -/
theorem g_c (h : Q v H) : tC v σ H Q := h
theorem g_op (h : ta σ H fun x H1 => tb σ H1 fun y H2 => r x y H2 Q) : tOp r ta tb σ H Q := h
theorem g_un {r : V → Hp → VK → Prop} (h : ta σ H fun x H1 => r x H1 Q) : tUn r ta σ H Q := h
theorem o_i0 {g : Int → Int → V} (h : Q (g i j) H) : rI0 g (.int i) (.int j) H Q := ⟨i, j, rfl, rfl, h⟩
theorem o_i {C : Int → Int → Prop} {g : Int → Int → V} (e : C i j) (h : Q (g i j) H) : rI C g (.int i) (.int j) H Q := ⟨i, j, rfl, rfl, e, h⟩
theorem o_u {g : Int → V} (h : Q (g i) H) : rU g (.int i) H Q := ⟨i, rfl, h⟩
theorem o_add (h : Q (.int (i + j)) H) : rAddI (.int i) (.int j) H Q := ⟨i, j, rfl, rfl, h⟩
theorem o_sub (h : Q (.int (i - j)) H) : rSubI (.int i) (.int j) H Q := ⟨i, j, rfl, rfl, h⟩
theorem o_mul (e : IntMulOk i j) (h : Q (.int (i * j)) H) : rMulI (.int i) (.int j) H Q := ⟨i, j, rfl, rfl, e, h⟩
theorem o_mod (e : 0 < j) (h : Q (.int (i % j)) H) : rModI (.int i) (.int j) H Q := ⟨i, j, rfl, rfl, e, h⟩
theorem o_div (e : CDivW i j) (h : Q (.int (i / j)) H) : rDivI (.int i) (.int j) H Q := ⟨i, j, rfl, rfl, e, h⟩
theorem o_pow {n : Nat} (e : CPow i n) (h : Q (.int (i ^ n)) H) : rPowI (.int i) (.int n) H Q := ⟨i, n, rfl, rfl, e, h⟩
theorem o_lt (h : Q (.bl (decide (i < j))) H) : rLtI (.int i) (.int j) H Q := ⟨i, j, rfl, rfl, h⟩
theorem o_le (h : Q (.bl (decide (i ≤ j))) H) : rLeI (.int i) (.int j) H Q := ⟨i, j, rfl, rfl, h⟩
theorem o_gt (h : Q (.bl (decide (j < i))) H) : rGtI (.int i) (.int j) H Q := ⟨i, j, rfl, rfl, h⟩
theorem o_ge (h : Q (.bl (decide (j ≤ i))) H) : rGeI (.int i) (.int j) H Q := ⟨i, j, rfl, rfl, h⟩
theorem o_or1 (h : r1 x y H Q) : rOr r1 r2 x y H Q := .inl h
theorem o_or2 (h : r2 x y H Q) : rOr r1 r2 x y H Q := .inr h
theorem o_eqI (h : Q (.bl (decide (i = j))) H) : rEq (.int i) (.int j) H Q := ⟨rfl, by
  have e : decide (V.int i = V.int j) = decide (i = j) := by by_cases z : i = j <;> simp [z]
  rw [e]; exact h⟩
theorem o_neI (h : Q (.bl (!decide (i = j))) H) : rNe (.int i) (.int j) H Q := ⟨rfl, by
  have e : decide (V.int i = V.int j) = decide (i = j) := by by_cases z : i = j <;> simp [z]
  rw [e]; exact h⟩
theorem o_eqV (e : scal x y = true) (h : Q (.bl (decide (x = y))) H) : rEq x y H Q := ⟨e, h⟩
theorem o_neV (e : scal x y = true) (h : Q (.bl (!decide (x = y))) H) : rNe x y H Q := ⟨e, h⟩
theorem o_isN (h : Q (.bl (decide (x = .non))) H) : rIsN' x .non H Q := ⟨rfl, h⟩
theorem o_notN (h : Q (.bl (!decide (x = .non))) H) : rNotN' x .non H Q := ⟨rfl, h⟩
theorem o_cat {l m : Addr} (h1 : H l = some (.lst xs)) (h2 : H m = some (.lst ys)) (hz : xs.length + ys.length ≤ 100000) (h : ∀ p H', Fr H p → Same H H' → H' p = some (.lst (xs ++ ys)) → Q (.ref p) H') : rCat (.ref l) (.ref m) H Q :=
  ⟨l, m, xs, ys, rfl, rfl, h1, h2, Nat.le_trans hz (by decide), fun p hp => h p _ ⟨hp⟩ (same_upd hp) upd_same⟩

/-- new objects -/
def AllocL (xs : List V) (H : Hp) (Q : VK) : Prop := xs.length ≤ sizeLine ∧ ∀ p, H p = none → Q (.ref p) (upd H p (.lst xs))
def AllocT (xs : List V) (H : Hp) (Q : VK) : Prop := xs.length ≤ sizeLine ∧ ∀ p, H p = none → Q (.ref p) (upd H p (.tup xs))
theorem g_lst (h : tas σ H fun xs H1 => AllocL xs H1 Q) : tLst tas σ H Q := h
theorem g_tup (h : tas σ H fun xs H1 => AllocT xs H1 Q) : tTup tas σ H Q := h
theorem al_l (hz : xs.length ≤ 100000) (h : ∀ p H', Fr H p → Same H H' → H' p = some (.lst xs) → Q (.ref p) H') : AllocL xs H Q := ⟨Nat.le_trans hz (by decide), fun p hp => h p _ ⟨hp⟩ (same_upd hp) upd_same⟩
theorem al_t (hz : xs.length ≤ 100000) (h : ∀ p H', Fr H p → Same H H' → H' p = some (.tup xs) → Q (.ref p) H') : AllocT xs H Q := ⟨Nat.le_trans hz (by decide), fun p hp => h p _ ⟨hp⟩ (same_upd hp) upd_same⟩
theorem g_nil {Q : List V → Hp → Prop} (h : Q [] H) : tNil σ H Q := h
theorem g_cons {Q : List V → Hp → Prop} (h : te σ H fun x H1 => tas σ H1 fun xs H2 => Q (x :: xs) H2) : tCons te tas σ H Q := h
/-- calls -/
theorem g_call (h : tas σ H fun vs H1 => sp vs H1 Q E) : tCall sp [] E tas σ H Q := by
  have e : (fun (vs : List V) (H1 : Hp) => sp vs H1 Q E) = fun vs H1 => sp (vs ++ []) H1 Q E := by funext vs H1; rw [List.append_nil]
  rw [e] at h
  exact h
def MethR (C : Addr) (m : Str) (sp : Sp) (E : XK) (t : TA) (σ : L2.St) (x : V) (H : Hp) (Q : VK) : Prop := ∃ a dx fs, x = .ref a ∧ H a = some (.ins C dx fs) ∧ fs.lookup m = none ∧ t σ H fun vs H2 => sp (x :: vs) H2 Q E
theorem g_meth {m : Str} (h : ta σ H fun x H1 => MethR C m sp E tas σ x H1 Q) : tMeth C m sp [] E ta tas σ H Q := by
  have e : (fun (x : V) (H1 : Hp) => MethR C m sp E tas σ x H1 Q) = fun x H1 => ∃ a dx fs, x = .ref a ∧ H1 a = some (.ins C dx fs) ∧ fs.lookup m = none ∧ tas σ H1 fun vs H2 => sp (x :: (vs ++ [])) H2 Q E := by
    funext x H1; simp only [List.append_nil]; rfl
  rw [e] at h
  exact h
theorem m_meth {m : Str} (h1 : H a = some (.ins C dx fs)) (hn : fs.lookup m = none) (h : tas σ H fun vs H2 => sp (.ref a :: vs) H2 Q E) : MethR C m sp E tas σ (.ref a) H Q := ⟨a, dx, fs, rfl, h1, hn, h⟩
def MakeR (C : Addr) (sp : Sp) (E : XK) (vs : List V) (H : Hp) (Q : VK) : Prop := ∀ x dx, H x = none → H dx = none → dx ≠ x → sp (.ref x :: vs) (upd (upd H dx (.own x)) x (.ins C dx [])) (fun v H2 => v = .non ∧ Q (.ref x) H2) E
theorem g_make (h : tas σ H fun vs H1 => MakeR C sp E vs H1 Q) : tMake C sp [] E tas σ H Q := by
  have e : (fun (vs : List V) (H1 : Hp) => MakeR C sp E vs H1 Q) = fun vs H1 => ∀ x dx, H1 x = none → H1 dx = none → dx ≠ x → sp (.ref x :: (vs ++ [])) (upd (upd H1 dx (.own x)) x (.ins C dx [])) (fun v H2 => v = .non ∧ Q (.ref x) H2) E := by
    funext vs H1; simp only [List.append_nil]; rfl
  rw [e] at h
  exact h
def FldR (K : PySem.W.Frag) (f : Str) (x : V) (H : Hp) (Q : VK) : Prop := ∃ a C dx fs v, x = .ref a ∧ H a = some (.ins C dx fs) ∧ Cls K C ∧ NoAttr K C f ∧ fs.lookup f = some v ∧ Q v H
theorem g_fld (h : ta σ H fun x H1 => FldR K f x H1 Q) : tFld K ta f σ H Q := h
theorem f_fld (h1 : H a = some (.ins C dx fs)) (hc : Cls K C) (hn : NoAttr K C f) (hl : fs.lookup f = some v) (h : Q v H) : FldR K f (.ref a) H Q := ⟨a, C, dx, fs, v, rfl, h1, hc, hn, hl, h⟩
def PropR (C : Addr) (sp : Sp) (E : XK) (x : V) (H : Hp) (Q : VK) : Prop := ∃ a dx fs, x = .ref a ∧ H a = some (.ins C dx fs) ∧ sp [.ref a] H Q E
theorem g_prop (h : ta σ H fun x H1 => PropR C sp E x H1 Q) : tProp C sp [] E ta σ H Q := h
theorem p_prop (h1 : H a = some (.ins C dx fs)) (h : sp [.ref a] H Q E) : PropR C sp E (.ref a) H Q := ⟨a, dx, fs, rfl, h1, h⟩
def StFld (K : PySem.W.Frag) (f : Str) (y x : V) (nx : L2.St → Hp → Prop) (σ : L2.St) (H : Hp) : Prop := ∃ a C dx fs, x = .ref a ∧ H a = some (.ins C dx fs) ∧ Cls K C ∧ NoAttr K C f ∧ fs.length < 1000 ∧ nx σ (upd H a (.ins C dx (putF f y fs)))
theorem g_sfld {tv : TE} (h : tv σ H fun y H1 => ta σ H1 fun x H2 => StFld K f y x nx σ H2) : sFld K ta tv f ⟨nx, rt, bk, ct⟩ σ H := h
theorem s_fld (h1 : H a = some (.ins C dx fs)) (hc : Cls K C) (hn : NoAttr K C f) (hl : fs.length < 1000) (h : nx σ (upd H a (.ins C dx (putF f y fs)))) : StFld K f y (.ref a) nx σ H := ⟨a, C, dx, fs, rfl, h1, hc, hn, hl, h⟩
theorem s_fldg (h1 : H a = some (.ins C dx fs)) (hc : Cls K C) (hn : NoAttr K C f) (hl : fs.length < 1000) (h : ∀ H', SB a H H' → H' a = some (.ins C dx (putF f y fs)) → nx σ H') : StFld K f y (.ref a) nx σ H := ⟨a, C, dx, fs, rfl, h1, hc, hn, hl, h _ sb_upd upd_same⟩
/-- subscripts -/
theorem ix_l {z : Int} (h1 : H a = some (.lst xs)) (h2 : atI xs z = some v) (h : Q v H) : rIx K (.ref a) (.int z) H Q := .inl ⟨a, xs, z, v, rfl, rfl, SqL.of h1, h2, h⟩
theorem ix_sq {z : Int} (h1 : SqL K H a xs) (h2 : atI xs z = some v) (h : Q v H) : rIx K (.ref a) (.int z) H Q := .inl ⟨a, xs, z, v, rfl, rfl, h1, h2, h⟩
theorem ix_t {z : Int} (h1 : H a = some (.tup xs)) (h2 : atI xs z = some v) (h : Q v H) : rIx K (.ref a) (.int z) H Q := .inr (.inl ⟨a, xs, z, v, rfl, rfl, SqT.of h1, h2, h⟩)
/-- targets -/
theorem g_gnil (h : nx σ H) : gNil [] σ H nx := ⟨rfl, h⟩
theorem g_gcons {t : TG} {u : TGs} (h : t v σ H fun σ' H' => u xs σ' H' nx) : gCons t u (v :: xs) σ H nx := ⟨v, xs, rfl, h⟩
theorem g_gtup {n : Nat} {t : TGs} (h1 : H a = some (.tup xs)) (hl : xs.length = n) (h : t xs σ H nx) : gTup K n t (.ref a) σ H nx := ⟨a, xs, rfl, SqT.of h1, hl, h⟩
def SetLR (o i v : V) (H : Hp) (Q : Hp → Prop) : Prop := rSetL o i v H Q
theorem g_gsub {to ti : TE} {t : TSet} (h : to σ H fun o H1 => ti σ H1 fun i H2 => t o i v H2 fun H3 => nx σ H3) : gSub to ti t v σ H nx := h
theorem s_setl {k : Int} {n : Nat} (h1 : H a = some (.lst xs)) (h2 : ixN xs.length k = some n) {Q : Hp → Prop} (h : ∀ H', SB a H H' → H' a = some (.lst (xs.set n v)) → Q H') : rSetL (.ref a) (.int k) v H Q :=
  ⟨a, xs, k, n, rfl, rfl, h1, h2, h _ sb_upd upd_same⟩
/-- built-in functions -/
theorem g_cb {r : List V → Hp → VK → Prop} (h : tas σ H fun vs H1 => r vs H1 Q) : tCB r tas σ H Q := h
end

/-! slots -/
section
variable {H : Hp} {Q : VK} {nx : L2.St → Hp → Prop} {v : V} {a0 a1 a2 a3 a4 a5 a6 a7 a8 a9 a10 a11 a12 a13 a14 a15 a16 a17 a18 a19 a20 : Option V} {r : L2.St}
theorem gv_0 (h : Q v H) : tVar 0 (some v :: r) H Q := ⟨v, rfl, h⟩
theorem gn_0 (h : nx (some v :: r) H) : gName 0 v (a0 :: r) H nx := h
theorem gv_1 (h : Q v H) : tVar 1 (a0 :: some v :: r) H Q := ⟨v, rfl, h⟩
theorem gn_1 (h : nx (a0 :: some v :: r) H) : gName 1 v (a0 :: a1 :: r) H nx := h
theorem gv_2 (h : Q v H) : tVar 2 (a0 :: a1 :: some v :: r) H Q := ⟨v, rfl, h⟩
theorem gn_2 (h : nx (a0 :: a1 :: some v :: r) H) : gName 2 v (a0 :: a1 :: a2 :: r) H nx := h
theorem gv_3 (h : Q v H) : tVar 3 (a0 :: a1 :: a2 :: some v :: r) H Q := ⟨v, rfl, h⟩
theorem gn_3 (h : nx (a0 :: a1 :: a2 :: some v :: r) H) : gName 3 v (a0 :: a1 :: a2 :: a3 :: r) H nx := h
theorem gv_4 (h : Q v H) : tVar 4 (a0 :: a1 :: a2 :: a3 :: some v :: r) H Q := ⟨v, rfl, h⟩
theorem gn_4 (h : nx (a0 :: a1 :: a2 :: a3 :: some v :: r) H) : gName 4 v (a0 :: a1 :: a2 :: a3 :: a4 :: r) H nx := h
theorem gv_5 (h : Q v H) : tVar 5 (a0 :: a1 :: a2 :: a3 :: a4 :: some v :: r) H Q := ⟨v, rfl, h⟩
theorem gn_5 (h : nx (a0 :: a1 :: a2 :: a3 :: a4 :: some v :: r) H) : gName 5 v (a0 :: a1 :: a2 :: a3 :: a4 :: a5 :: r) H nx := h
theorem gv_6 (h : Q v H) : tVar 6 (a0 :: a1 :: a2 :: a3 :: a4 :: a5 :: some v :: r) H Q := ⟨v, rfl, h⟩
theorem gn_6 (h : nx (a0 :: a1 :: a2 :: a3 :: a4 :: a5 :: some v :: r) H) : gName 6 v (a0 :: a1 :: a2 :: a3 :: a4 :: a5 :: a6 :: r) H nx := h
theorem gv_7 (h : Q v H) : tVar 7 (a0 :: a1 :: a2 :: a3 :: a4 :: a5 :: a6 :: some v :: r) H Q := ⟨v, rfl, h⟩
theorem gn_7 (h : nx (a0 :: a1 :: a2 :: a3 :: a4 :: a5 :: a6 :: some v :: r) H) : gName 7 v (a0 :: a1 :: a2 :: a3 :: a4 :: a5 :: a6 :: a7 :: r) H nx := h
theorem gv_8 (h : Q v H) : tVar 8 (a0 :: a1 :: a2 :: a3 :: a4 :: a5 :: a6 :: a7 :: some v :: r) H Q := ⟨v, rfl, h⟩
theorem gn_8 (h : nx (a0 :: a1 :: a2 :: a3 :: a4 :: a5 :: a6 :: a7 :: some v :: r) H) : gName 8 v (a0 :: a1 :: a2 :: a3 :: a4 :: a5 :: a6 :: a7 :: a8 :: r) H nx := h
theorem gv_9 (h : Q v H) : tVar 9 (a0 :: a1 :: a2 :: a3 :: a4 :: a5 :: a6 :: a7 :: a8 :: some v :: r) H Q := ⟨v, rfl, h⟩
theorem gn_9 (h : nx (a0 :: a1 :: a2 :: a3 :: a4 :: a5 :: a6 :: a7 :: a8 :: some v :: r) H) : gName 9 v (a0 :: a1 :: a2 :: a3 :: a4 :: a5 :: a6 :: a7 :: a8 :: a9 :: r) H nx := h
theorem gv_10 (h : Q v H) : tVar 10 (a0 :: a1 :: a2 :: a3 :: a4 :: a5 :: a6 :: a7 :: a8 :: a9 :: some v :: r) H Q := ⟨v, rfl, h⟩
theorem gn_10 (h : nx (a0 :: a1 :: a2 :: a3 :: a4 :: a5 :: a6 :: a7 :: a8 :: a9 :: some v :: r) H) : gName 10 v (a0 :: a1 :: a2 :: a3 :: a4 :: a5 :: a6 :: a7 :: a8 :: a9 :: a10 :: r) H nx := h
theorem gv_11 (h : Q v H) : tVar 11 (a0 :: a1 :: a2 :: a3 :: a4 :: a5 :: a6 :: a7 :: a8 :: a9 :: a10 :: some v :: r) H Q := ⟨v, rfl, h⟩
theorem gn_11 (h : nx (a0 :: a1 :: a2 :: a3 :: a4 :: a5 :: a6 :: a7 :: a8 :: a9 :: a10 :: some v :: r) H) : gName 11 v (a0 :: a1 :: a2 :: a3 :: a4 :: a5 :: a6 :: a7 :: a8 :: a9 :: a10 :: a11 :: r) H nx := h
theorem gv_12 (h : Q v H) : tVar 12 (a0 :: a1 :: a2 :: a3 :: a4 :: a5 :: a6 :: a7 :: a8 :: a9 :: a10 :: a11 :: some v :: r) H Q := ⟨v, rfl, h⟩
theorem gn_12 (h : nx (a0 :: a1 :: a2 :: a3 :: a4 :: a5 :: a6 :: a7 :: a8 :: a9 :: a10 :: a11 :: some v :: r) H) : gName 12 v (a0 :: a1 :: a2 :: a3 :: a4 :: a5 :: a6 :: a7 :: a8 :: a9 :: a10 :: a11 :: a12 :: r) H nx := h
theorem gv_13 (h : Q v H) : tVar 13 (a0 :: a1 :: a2 :: a3 :: a4 :: a5 :: a6 :: a7 :: a8 :: a9 :: a10 :: a11 :: a12 :: some v :: r) H Q := ⟨v, rfl, h⟩
theorem gn_13 (h : nx (a0 :: a1 :: a2 :: a3 :: a4 :: a5 :: a6 :: a7 :: a8 :: a9 :: a10 :: a11 :: a12 :: some v :: r) H) : gName 13 v (a0 :: a1 :: a2 :: a3 :: a4 :: a5 :: a6 :: a7 :: a8 :: a9 :: a10 :: a11 :: a12 :: a13 :: r) H nx := h
theorem gv_14 (h : Q v H) : tVar 14 (a0 :: a1 :: a2 :: a3 :: a4 :: a5 :: a6 :: a7 :: a8 :: a9 :: a10 :: a11 :: a12 :: a13 :: some v :: r) H Q := ⟨v, rfl, h⟩
theorem gn_14 (h : nx (a0 :: a1 :: a2 :: a3 :: a4 :: a5 :: a6 :: a7 :: a8 :: a9 :: a10 :: a11 :: a12 :: a13 :: some v :: r) H) : gName 14 v (a0 :: a1 :: a2 :: a3 :: a4 :: a5 :: a6 :: a7 :: a8 :: a9 :: a10 :: a11 :: a12 :: a13 :: a14 :: r) H nx := h
theorem gv_15 (h : Q v H) : tVar 15 (a0 :: a1 :: a2 :: a3 :: a4 :: a5 :: a6 :: a7 :: a8 :: a9 :: a10 :: a11 :: a12 :: a13 :: a14 :: some v :: r) H Q := ⟨v, rfl, h⟩
theorem gn_15 (h : nx (a0 :: a1 :: a2 :: a3 :: a4 :: a5 :: a6 :: a7 :: a8 :: a9 :: a10 :: a11 :: a12 :: a13 :: a14 :: some v :: r) H) : gName 15 v (a0 :: a1 :: a2 :: a3 :: a4 :: a5 :: a6 :: a7 :: a8 :: a9 :: a10 :: a11 :: a12 :: a13 :: a14 :: a15 :: r) H nx := h
theorem gv_16 (h : Q v H) : tVar 16 (a0 :: a1 :: a2 :: a3 :: a4 :: a5 :: a6 :: a7 :: a8 :: a9 :: a10 :: a11 :: a12 :: a13 :: a14 :: a15 :: some v :: r) H Q := ⟨v, rfl, h⟩
theorem gn_16 (h : nx (a0 :: a1 :: a2 :: a3 :: a4 :: a5 :: a6 :: a7 :: a8 :: a9 :: a10 :: a11 :: a12 :: a13 :: a14 :: a15 :: some v :: r) H) : gName 16 v (a0 :: a1 :: a2 :: a3 :: a4 :: a5 :: a6 :: a7 :: a8 :: a9 :: a10 :: a11 :: a12 :: a13 :: a14 :: a15 :: a16 :: r) H nx := h
theorem gv_17 (h : Q v H) : tVar 17 (a0 :: a1 :: a2 :: a3 :: a4 :: a5 :: a6 :: a7 :: a8 :: a9 :: a10 :: a11 :: a12 :: a13 :: a14 :: a15 :: a16 :: some v :: r) H Q := ⟨v, rfl, h⟩
theorem gn_17 (h : nx (a0 :: a1 :: a2 :: a3 :: a4 :: a5 :: a6 :: a7 :: a8 :: a9 :: a10 :: a11 :: a12 :: a13 :: a14 :: a15 :: a16 :: some v :: r) H) : gName 17 v (a0 :: a1 :: a2 :: a3 :: a4 :: a5 :: a6 :: a7 :: a8 :: a9 :: a10 :: a11 :: a12 :: a13 :: a14 :: a15 :: a16 :: a17 :: r) H nx := h
theorem gv_18 (h : Q v H) : tVar 18 (a0 :: a1 :: a2 :: a3 :: a4 :: a5 :: a6 :: a7 :: a8 :: a9 :: a10 :: a11 :: a12 :: a13 :: a14 :: a15 :: a16 :: a17 :: some v :: r) H Q := ⟨v, rfl, h⟩
theorem gn_18 (h : nx (a0 :: a1 :: a2 :: a3 :: a4 :: a5 :: a6 :: a7 :: a8 :: a9 :: a10 :: a11 :: a12 :: a13 :: a14 :: a15 :: a16 :: a17 :: some v :: r) H) : gName 18 v (a0 :: a1 :: a2 :: a3 :: a4 :: a5 :: a6 :: a7 :: a8 :: a9 :: a10 :: a11 :: a12 :: a13 :: a14 :: a15 :: a16 :: a17 :: a18 :: r) H nx := h
theorem gv_19 (h : Q v H) : tVar 19 (a0 :: a1 :: a2 :: a3 :: a4 :: a5 :: a6 :: a7 :: a8 :: a9 :: a10 :: a11 :: a12 :: a13 :: a14 :: a15 :: a16 :: a17 :: a18 :: some v :: r) H Q := ⟨v, rfl, h⟩
theorem gn_19 (h : nx (a0 :: a1 :: a2 :: a3 :: a4 :: a5 :: a6 :: a7 :: a8 :: a9 :: a10 :: a11 :: a12 :: a13 :: a14 :: a15 :: a16 :: a17 :: a18 :: some v :: r) H) : gName 19 v (a0 :: a1 :: a2 :: a3 :: a4 :: a5 :: a6 :: a7 :: a8 :: a9 :: a10 :: a11 :: a12 :: a13 :: a14 :: a15 :: a16 :: a17 :: a18 :: a19 :: r) H nx := h
theorem gv_20 (h : Q v H) : tVar 20 (a0 :: a1 :: a2 :: a3 :: a4 :: a5 :: a6 :: a7 :: a8 :: a9 :: a10 :: a11 :: a12 :: a13 :: a14 :: a15 :: a16 :: a17 :: a18 :: a19 :: some v :: r) H Q := ⟨v, rfl, h⟩
theorem gn_20 (h : nx (a0 :: a1 :: a2 :: a3 :: a4 :: a5 :: a6 :: a7 :: a8 :: a9 :: a10 :: a11 :: a12 :: a13 :: a14 :: a15 :: a16 :: a17 :: a18 :: a19 :: some v :: r) H) : gName 20 v (a0 :: a1 :: a2 :: a3 :: a4 :: a5 :: a6 :: a7 :: a8 :: a9 :: a10 :: a11 :: a12 :: a13 :: a14 :: a15 :: a16 :: a17 :: a18 :: a19 :: a20 :: r) H nx := h
end
end L3

/-! ### calls by keywords -/
namespace L3
open PySem L2 PyProof.Rows
def pick {α : Type} (ws : List α) : List Nat → List α
  | [] => []
  | i :: r => match ws[i]? with
    | some x => x :: pick ws r
    | none => pick ws r
def kwg {α : Type} (perm : List Nat) (us ws : List α) : List α := us ++ pick ws perm
theorem pick_rel {zs : List V} {ws : List Value} (h : Vals zs ws) : ∀ perm : List Nat, Vals (pick zs perm) (pick ws perm)
  | [] => .nil
  | i :: r => by
    unfold pick
    cases e : zs[i]? with
    | none => rw [h.none_of e]; exact pick_rel h r
    | some x =>
      obtain ⟨u, e2, rx⟩ := h.get e
      rw [e2]
      exact .cons rx (pick_rel h r)
theorem kbn_mk {K : PySem.W.Frag} {fd : FuncData} {ps ks : List Str} {n : Nat} {perm : List Nat} (h : ∀ (us ws : List Value), us.length = n → ws.length = ks.length → bindArgs fd ⟨us, ks.zip ws⟩ = pure (ps.zip (kwg perm us ws))) :
    KBn K fd ps n ks (fun us ws => kwg perm us ws) (fun vs zs => kwg perm vs zs) :=
  ⟨fun s us ws _ l1 l2 => .of_eq (h us ws l1 l2), fun r1 r2 => r1.append (pick_rel r2 perm)⟩
/-- o.m(e, .., k = v, ..) -/
def tMethK (C : Addr) (m : Str) (n j : Nat) (sp : Sp) (gV : List V → List V → List V) (E : XK) (ta : TE) (t tk : TA) : TE := fun σ H Q => ta σ H fun x H1 => ∃ a dx fs, x = .ref a ∧ H1 a = some (.ins C dx fs) ∧ fs.lookup m = none ∧
  t σ H1 fun vs H2 => tk σ H2 fun zs H3 => (x :: vs).length = n ∧ zs.length = j ∧ sp (gV (x :: vs) zs) H3 Q E
section
variable {X : Cx} {CX : CXT} {k n : Nat} {f C : Addr} {fd : FuncData} {ps ks : List Str} {sp : Sp} {E : XK} {m : Str} {pos apos : Pos} {o e : Expr} {es : List Expr} {kws : List Keyword} {ta : TE} {t tk : TA} {g : List Value → List Value → List Value} {gV : List V → List V → List V}
theorem pe_methK {pl : Sem Bool} (he : PE X o ta) (c : Cls X.K C) (hm : Meth X.K C m f) (F : FnOk X.prog X.w X.K X.mg X.base CX k f fd ps sp) (hr : Room k X.A) (hb : KBn X.K fd ps n ks g gV) (hx : Passes CX X E) (ha : PA X (e :: es) t) (hkw : PK X kws tk)
    (hall : (backToKw pos (keywordEach kws X.env)).all (·.1.isSome) = true := by rfl) (hks : (backToKw pos (keywordEach kws X.env)).filterMap (·.1) = ks := by rfl)
    (hst : starEach (e :: es) X.env = (false, eval e X.env) :: starEach es X.env := by rfl) (hpl : ((backTo pos (starEach (e :: es) X.env)).any (·.1) || (backToKw pos (keywordEach kws X.env)).any (·.1.isNone)) = false := by rfl)
    (ht : eval (.Call (.Attribute o m apos) (e :: es) kws pos) X.env = (do
      let ov ← eval o X.env
      standAt apos.atName
      let (f, first) ← holding [ov] (getMethod ov m pl)
      callWith pos f first (backTo pos (starEach (e :: es) X.env)) (backToKw pos (keywordEach kws X.env))) := by rfl) :
    PE X (.Call (.Attribute o m apos) (e :: es) kws pos) (tMethK C m n ks.length sp gV E ta t tk) := by
  refine ⟨fun pins s σ H Q I h => ?_⟩
  refine PySem.W.methodCall_KW (pl := pl) (thn (he.run pins s σ H _ I h) fun u s1 ⟨x, H1, I1, rx, a, dx, fs, ex, ea, l, q⟩ => ?_) ht
  subst ex
  obtain rfl : u = Value.ref a := rx
  refine getmeth_ok I1 ea c hm l ?_
  refine PySem.W.callWith_KW (first := [.ref a]) (h₀ := X.base) I.ok.mod.kin hm.kp hall (thn (ha.run pos pins s1 σ H1 _ I1 q) fun us s2 ⟨vs, H2, I2, r, q2⟩ => ?_) hpl hst
  refine thn (hkw.run pos pins s2 σ H2 _ I2 q2) fun ws s3 ⟨zs, H3, I3, rz, l1, l2, q3⟩ => ⟨I3.kIn, ?_⟩
  rw [hks]
  exact run_fnN (us := .ref a :: us) (vs := .ref a :: vs) F hr hb hx I3 (.cons rfl r) rz l1 l2 q3
theorem pe_methK0 {pl : Sem Bool} (he : PE X o ta) (c : Cls X.K C) (hm : Meth X.K C m f) (F : FnOk X.prog X.w X.K X.mg X.base CX k f fd ps sp) (hr : Room k X.A) (hb : KBn X.K fd ps n ks g gV) (hx : Passes CX X E) (hkw : PK X kws tk)
    (hall : (backToKw pos (keywordEach kws X.env)).all (·.1.isSome) = true := by rfl) (hks : (backToKw pos (keywordEach kws X.env)).filterMap (·.1) = ks := by rfl)
    (hpl : ((backTo pos (starEach [] X.env)).any (·.1) || (backToKw pos (keywordEach kws X.env)).any (·.1.isNone)) = false := by rfl)
    (ht : eval (.Call (.Attribute o m apos) [] kws pos) X.env = (do
      let ov ← eval o X.env
      standAt apos.atName
      let (f, first) ← holding [ov] (getMethod ov m pl)
      callWith pos f first (backTo pos (starEach [] X.env)) (backToKw pos (keywordEach kws X.env))) := by rfl) :
    PE X (.Call (.Attribute o m apos) [] kws pos) (tMethK C m n ks.length sp gV E ta tNil tk) := by
  refine ⟨fun pins s σ H Q I h => ?_⟩
  refine PySem.W.methodCall_KW (pl := pl) (thn (he.run pins s σ H _ I h) fun u s1 ⟨x, H1, I1, rx, a, dx, fs, ex, ea, l, q⟩ => ?_) ht
  subst ex
  obtain rfl : u = Value.ref a := rx
  refine getmeth_ok I1 ea c hm l ?_
  refine PySem.W.callWith_KW0 (first := [.ref a]) (h₀ := X.base) I.ok.mod.kin hm.kp hall ?_ hpl
  refine thn (hkw.run pos pins s1 σ H1 _ I1 q) fun ws s3 ⟨zs, H3, I3, rz, l1, l2, q3⟩ => ⟨I3.kIn, ?_⟩
  rw [hks]
  exact run_fnN (us := [.ref a]) (vs := [.ref a]) F hr hb hx I3 (.cons rfl .nil) rz l1 l2 q3
theorem ptT {a : Expr} {ta : TE} (ha : PE X a ta) (he : ∀ whole, isTrue a X.env whole = (do let v ← whole; standAt a.pos; holding [v] (truthy v))) : PT X a (tTr X.K ta) := pt_truth ha he
end
section
variable {K : PySem.W.Frag} {C a dx : Addr} {σ : L2.St} {H : Hp} {Q : VK} {ta : TE} {t tk : TA} {sp : Sp} {E : XK} {fs : List (Str × V)} {vs zs : List V} {n j : Nat} {perm : List Nat}
def CallK (n j : Nat) (sp : Sp) (E : XK) (perm : List Nat) (vs zs : List V) (H : Hp) (Q : VK) : Prop := vs.length = n ∧ zs.length = j ∧ sp (kwg perm vs zs) H Q E
def MethKR (C : Addr) (m : Str) (n j : Nat) (sp : Sp) (perm : List Nat) (E : XK) (t tk : TA) (σ : L2.St) (x : V) (H : Hp) (Q : VK) : Prop := ∃ a dx fs, x = .ref a ∧ H a = some (.ins C dx fs) ∧ fs.lookup m = none ∧ t σ H fun vs H2 => tk σ H2 fun zs H3 => CallK n j sp E perm (x :: vs) zs H3 Q
theorem g_methK {m : Str} (h : ta σ H fun x H1 => MethKR C m n j sp perm E t tk σ x H1 Q) : tMethK C m n j sp (fun vs zs => kwg perm vs zs) E ta t tk σ H Q := h
theorem m_methK {m : Str} (h1 : H a = some (.ins C dx fs)) (hn : fs.lookup m = none) (h : t σ H fun vs H2 => tk σ H2 fun zs H3 => CallK n j sp E perm (.ref a :: vs) zs H3 Q) : MethKR C m n j sp perm E t tk σ (.ref a) H Q := ⟨a, dx, fs, rfl, h1, hn, h⟩
theorem g_callK {vs' : List V} (h1 : vs.length = n) (h2 : zs.length = j) (e : kwg perm vs zs = vs') (h : sp vs' H Q E) : CallK n j sp E perm vs zs H Q := ⟨h1, h2, by rw [e]; exact h⟩
theorem g_tcallN (h : t σ H fun vs H1 => tk σ H1 fun zs H2 => CallK n j sp E perm vs zs H2 Q) : tCallN n j sp (fun vs zs => kwg perm vs zs) E t tk σ H Q := h
def MakeKR (C : Addr) (n j : Nat) (sp : Sp) (E : XK) (perm : List Nat) (vs zs : List V) (H : Hp) (Q : VK) : Prop := vs.length = n ∧ zs.length = j ∧ ∀ x dx, H x = none → H dx = none → dx ≠ x → sp (kwg perm (.ref x :: vs) zs) (upd (upd H dx (.own x)) x (.ins C dx [])) (fun v H3 => v = .non ∧ Q (.ref x) H3) E
theorem g_makeK (h : t σ H fun vs H1 => tk σ H1 fun zs H2 => MakeKR C n j sp E perm vs zs H2 Q) : tMakeK C n j sp (fun vs zs => kwg perm vs zs) E t tk σ H Q := h
theorem m_makeK {vs' : V → List V} (h1 : vs.length = n) (h2 : zs.length = j) (e : ∀ x, kwg perm (x :: vs) zs = vs' x) (h : ∀ x dx, H x = none → H dx = none → dx ≠ x → sp (vs' (.ref x)) (upd (upd H dx (.own x)) x (.ins C dx [])) (fun v H3 => v = .non ∧ Q (.ref x) H3) E) : MakeKR C n j sp E perm vs zs H Q :=
  ⟨h1, h2, fun x dx a b c => by rw [e]; exact h x dx a b c⟩
/-- __init__: the instance is new; what it leaves -/
def SpInit (C : Addr) (vs : List V) (fs : List (Str × V)) (ws : List V) (H : Hp) (Q : VK) : Prop := ∃ x dx, vs = .ref x :: ws ∧ H x = some (.ins C dx []) ∧ ∀ H', SB x H H' → H' x = some (.ins C dx fs) → Q .non H'
theorem mk_done {C x dx : Addr} {H H' : Hp} {fs : List (Str × V)} {Q : VK} (h1 : H x = none) (h2 : H dx = none) (e : SB x (upd (upd H dx (.own x)) x (.ins C dx [])) H') (h3 : H' x = some (.ins C dx fs))
    (k : ∀ x dx H', Fr H x → Same H H' → H' x = some (.ins C dx fs) → Q (.ref x) H') : V.non = .non ∧ Q (.ref x) H' := ⟨rfl, k x dx H' ⟨h1⟩ (fun b o q => e b o (ne_of_none q h1) (by rw [upd_ne (ne_of_none q h1), upd_ne (ne_of_none q h2)]; exact q)) h3⟩
end
end L3

/-! ### built-ins, by name -/
namespace L3
open PySem L2 PyProof.Rows
def rInt1 : List V → Hp → VK → Prop := fun xs H Q => (∃ i, xs = [.int i] ∧ Q (.int i) H) ∨ ∃ k, xs = [.bl k] ∧ Q (.int (if k then 1 else 0)) H
def rAbs1 : List V → Hp → VK → Prop := fun xs H Q => ∃ i, xs = [.int i] ∧ Q (.int (if i < 0 then -i else i)) H
def rMax2 : List V → Hp → VK → Prop := fun xs H Q => ∃ i j, xs = [.int i, .int j] ∧ Q (.int (if j > i then j else i)) H
def rMin2 : List V → Hp → VK → Prop := fun xs H Q => ∃ i j, xs = [.int i, .int j] ∧ Q (.int (if j < i then j else i)) H
def rLen (K : PySem.W.Frag) : List V → Hp → VK → Prop := fun xs H Q => ∃ p ys, xs = [.ref p] ∧ (SqL K H p ys ∨ SqT K H p ys) ∧ Q (.int ys.length) H
def rListOf (K : PySem.W.Frag) : List V → Hp → VK → Prop := fun xs H Q => ∃ p ys, xs = [.ref p] ∧ (SqL K H p ys ∨ SqT K H p ys) ∧ ∀ l, H l = none → Q (.ref l) (upd H l (.lst ys))
section
variable {X : Cx}
theorem c_int1 : CallR X (.type "int") rInt1 := call_int1
theorem c_abs : CallR X (.builtin "abs") rAbs1 := call_abs
theorem c_max2 (hc : X.calm = true) : CallR X (.builtin "max") rMax2 := call_max2 hc
theorem c_min2 (hc : X.calm = true) : CallR X (.builtin "min") rMin2 := call_min2 hc
theorem c_len : CallR X (.builtin "len") (rLen X.K) := call_len_seq
theorem c_list : CallR X (.type "list") (rListOf X.K) := call_list_of
end
section
variable {K : PySem.W.Frag} {a : Addr} {H : Hp} {Q : VK} {i j n z : Int} {b : Bool} {xs r : List V} {v x : V}
theorem b_int (h : Q (.int i) H) : rInt1 [.int i] H Q := .inl ⟨i, rfl, h⟩
theorem b_intb (h : Q (.int (if b then 1 else 0)) H) : rInt1 [.bl b] H Q := .inr ⟨b, rfl, h⟩
theorem b_abs (h : Q (.int (if i < 0 then -i else i)) H) : rAbs1 [.int i] H Q := ⟨i, rfl, h⟩
theorem b_max2 (h : Q (.int (if j > i then j else i)) H) : rMax2 [.int i, .int j] H Q := ⟨i, j, rfl, h⟩
theorem b_min2 (h : Q (.int (if j < i then j else i)) H) : rMin2 [.int i, .int j] H Q := ⟨i, j, rfl, h⟩
theorem b_len (h1 : H a = some (.lst xs)) (hn : (xs.length : Int) = n) (h : Q (.int n) H) : rLen K [.ref a] H Q := ⟨a, xs, rfl, .inl (SqL.of h1), by rw [hn]; exact h⟩
theorem b_lent (h1 : H a = some (.tup xs)) (hn : (xs.length : Int) = n) (h : Q (.int n) H) : rLen K [.ref a] H Q := ⟨a, xs, rfl, .inr (SqT.of h1), by rw [hn]; exact h⟩
theorem b_lenq (h1 : SqL K H a xs) (hn : (xs.length : Int) = n) (h : Q (.int n) H) : rLen K [.ref a] H Q := ⟨a, xs, rfl, .inl h1, by rw [hn]; exact h⟩
theorem b_list (h1 : H a = some (.lst xs)) (h : ∀ p H', Fr H p → Same H H' → H' p = some (.lst xs) → Q (.ref p) H') : rListOf K [.ref a] H Q := ⟨a, xs, rfl, .inl (SqL.of h1), fun p hp => h p _ ⟨hp⟩ (same_upd hp) upd_same⟩
theorem b_listt (h1 : H a = some (.tup xs)) (h : ∀ p H', Fr H p → Same H H' → H' p = some (.lst xs) → Q (.ref p) H') : rListOf K [.ref a] H Q := ⟨a, xs, rfl, .inr (SqT.of h1), fun p hp => h p _ ⟨hp⟩ (same_upd hp) upd_same⟩
theorem s_set0 {Q : Hp → Prop} (h1 : H a = some (.lst (x :: r))) (h : ∀ H', SB a H H' → H' a = some (.lst (v :: r)) → Q H') : rSetL (.ref a) (.int 0) v H Q :=
  ⟨a, x :: r, 0, 0, rfl, rfl, h1, by
    unfold ixN
    rw [if_pos (by decide), if_pos (by rw [List.length_cons]; omega)]
    rfl, h _ sb_upd upd_same⟩
/-- an item of a list all of whose items are so -/
theorem ix_all {P : V → Prop} (h1 : H a = some (.lst xs)) (h0 : 0 ≤ z) (hz : z < xs.length) (hP : ∀ v ∈ xs, P v) (h : ∀ v, P v → Q v H) : rIx K (.ref a) (.int z) H Q := by
  have e : z = ((z.toNat : Nat) : Int) := by omega
  have hlt : z.toNat < xs.length := by omega
  exact ix_l h1 (v := xs[z.toNat]) (at_of e (by simp [hlt])) (h _ (hP _ (List.getElem_mem hlt)))
theorem ix_at {k : Nat} (h1 : H a = some (.lst xs)) (hz : z = k) (hv : xs[k]? = some v) (h : Q v H) : rIx K (.ref a) (.int z) H Q := ix_l h1 (by rw [hz]; exact atI_nat hv) h
theorem o_powc {k : Int} (e : CPow i j) (hk : i ^ j.toNat = k) (h : Q (.int k) H) : rPowI (.int i) (.int j) H Q := ⟨i, j, rfl, rfl, e, by show Q (V.int (i ^ j.toNat)) H; rw [hk]; exact h⟩
end
end L3

/-! ### more rests, data, loops, comprehensions -/
namespace L3
open PySem L2 PyProof.Rows
theorem q_y {Q : VK} {H : Hp} {P : Prop} {dP : Decidable P} (e : P) (h : Q (.bl true) H) : Q (.bl (decide P)) H := by rw [decide_eq_true e]; exact h
theorem q_n {Q : VK} {H : Hp} {P : Prop} {dP : Decidable P} (e : ¬ P) (h : Q (.bl false) H) : Q (.bl (decide P)) H := by rw [decide_eq_false e]; exact h
section
variable {K : PySem.W.Frag} {a : Addr} {σ : L2.St} {H : Hp} {Q : VK} {i j : Int} {x y v : V} {b : Bool} {P : Prop} {xs ys : List V} {ta tb te tl : TE} {t u : TT} {g : TG} {ts : TS} {D : Ends} {nx bk ct : L2.St → Hp → Prop} {rt : VK} {tas : TA}
def AndVR (x : V) (tb : TE) (σ : L2.St) (H : Hp) (Q : VK) : Prop := ∃ c, x = .bl c ∧ if c = true then tb σ H Q else Q (.bl false) H
def OrVR (x : V) (tb : TE) (σ : L2.St) (H : Hp) (Q : VK) : Prop := ∃ c, x = .bl c ∧ if c = true then Q (.bl true) H else tb σ H Q
def NotVR (x : V) (H : Hp) (Q : VK) : Prop := ∃ c, x = .bl c ∧ Q (.bl (!c)) H
def NotTR (K : PySem.W.Frag) (x : V) (H : Hp) (Q : VK) : Prop := ∃ k, TruV K x H k ∧ Q (.bl (!k)) H
def IfER (b : Bool) (ta tb : TE) (σ : L2.St) (H : Hp) (Q : VK) : Prop := if b = true then ta σ H Q else tb σ H Q
theorem g_andv (h : ta σ H fun x H1 => AndVR x tb σ H1 Q) : tAndV ta tb σ H Q := h
theorem g_orv (h : ta σ H fun x H1 => OrVR x tb σ H1 Q) : tOrV ta tb σ H Q := h
theorem g_notv (h : ta σ H fun x H1 => NotVR x H1 Q) : tNotV ta σ H Q := h
theorem g_nott (h : ta σ H fun x H1 => NotTR K x H1 Q) : tNotT K ta σ H Q := h
theorem g_ife (h : t σ H fun b H1 => IfER b ta tb σ H1 Q) : tIf t ta tb σ H Q := h
theorem andv_T (h : tb σ H Q) : AndVR (.bl true) tb σ H Q := ⟨true, rfl, h⟩
theorem andv_F (h : Q (.bl false) H) : AndVR (.bl false) tb σ H Q := ⟨false, rfl, h⟩
theorem andv_y {dP : Decidable P} (e : P) (h : tb σ H Q) : AndVR (.bl (decide P)) tb σ H Q := by rw [decide_eq_true e]; exact andv_T h
theorem andv_n {dP : Decidable P} (e : ¬ P) (h : Q (.bl false) H) : AndVR (.bl (decide P)) tb σ H Q := by rw [decide_eq_false e]; exact andv_F h
theorem andv_2 {dP : Decidable P} (h1 : P → tb σ H Q) (h2 : ¬ P → Q (.bl false) H) : AndVR (.bl (decide P)) tb σ H Q := by
  by_cases h : P
  · exact andv_y h (h1 h)
  · exact andv_n h (h2 h)
theorem orv_T (h : Q (.bl true) H) : OrVR (.bl true) tb σ H Q := ⟨true, rfl, h⟩
theorem orv_F (h : tb σ H Q) : OrVR (.bl false) tb σ H Q := ⟨false, rfl, h⟩
theorem orv_y {dP : Decidable P} (e : P) (h : Q (.bl true) H) : OrVR (.bl (decide P)) tb σ H Q := by rw [decide_eq_true e]; exact orv_T h
theorem orv_n {dP : Decidable P} (e : ¬ P) (h : tb σ H Q) : OrVR (.bl (decide P)) tb σ H Q := by rw [decide_eq_false e]; exact orv_F h
theorem notv_T (h : Q (.bl false) H) : NotVR (.bl true) H Q := ⟨true, rfl, h⟩
theorem notv_F (h : Q (.bl true) H) : NotVR (.bl false) H Q := ⟨false, rfl, h⟩
theorem notv_y {dP : Decidable P} (e : P) (h : Q (.bl false) H) : NotVR (.bl (decide P)) H Q := by rw [decide_eq_true e]; exact notv_T h
theorem notv_n {dP : Decidable P} (e : ¬ P) (h : Q (.bl true) H) : NotVR (.bl (decide P)) H Q := by rw [decide_eq_false e]; exact notv_F h
theorem notv_b (h : Q (.bl (!b)) H) : NotVR (.bl b) H Q := ⟨b, rfl, h⟩
theorem nott_bl (h : NotVR (.bl b) H Q) : NotTR K (.bl b) H Q := by obtain ⟨c, e, q⟩ := h; cases e; exact ⟨b, rfl, q⟩
theorem ife_T (h : ta σ H Q) : IfER true ta tb σ H Q := h
theorem ife_F (h : tb σ H Q) : IfER false ta tb σ H Q := h
theorem ife_y {dP : Decidable P} (e : P) (h : ta σ H Q) : IfER (decide P) ta tb σ H Q := by rw [decide_eq_true e]; exact h
theorem ife_n {dP : Decidable P} (e : ¬ P) (h : tb σ H Q) : IfER (decide P) ta tb σ H Q := by rw [decide_eq_false e]; exact h
theorem ife_2 {dP : Decidable P} (h1 : P → ta σ H Q) (h2 : ¬ P → tb σ H Q) : IfER (decide P) ta tb σ H Q := by
  by_cases h : P
  · exact ife_y h (h1 h)
  · exact ife_n h (h2 h)
theorem ife_b (h1 : b = true → ta σ H Q) (h2 : b = false → tb σ H Q) : IfER b ta tb σ H Q := by
  cases b
  · exact h2 rfl
  · exact h1 rfl

/-! isinstance of an int -/
theorem isi_ii (h : Q (.bl true) H) : rIsi K [.int i, .ty "int"] H Q := ⟨_, _, _, _, true, rfl, .ty _, .base (.int i), kit_ty (by decide +kernel), h⟩
theorem isi_ib (h : Q (.bl false) H) : rIsi K [.int i, .ty "bool"] H Q := ⟨_, _, _, _, false, rfl, .ty _, .base (.int i), kit_ty (by decide +kernel), h⟩
theorem isi_bb (h : Q (.bl true) H) : rIsi K [.bl b, .ty "bool"] H Q := ⟨_, _, _, _, true, rfl, .ty _, .base (.bl b), kit_ty (by decide +kernel), h⟩
theorem isi_bi (h : Q (.bl true) H) : rIsi K [.bl b, .ty "int"] H Q := ⟨_, _, _, _, true, rfl, .ty _, .base (.bl b), kit_ty (by decide +kernel), h⟩
theorem isi_ll (h1 : H a = some (.lst xs)) (h : Q (.bl true) H) : rIsi K [.ref a, .ty "list"] H Q := ⟨_, _, _, _, true, rfl, .ty _, .base (.lst h1), kit_ty (by decide +kernel), h⟩
theorem isi_tt (h1 : H a = some (.tup xs)) (h : Q (.bl true) H) : rIsi K [.ref a, .ty "tuple"] H Q := ⟨_, _, _, _, true, rfl, .ty _, .base (.tup h1), kit_ty (by decide +kernel), h⟩
end

/-! ### a target that takes a tuple or a list -/
def gOr (g1 g2 : TG) : TG := fun v σ H Q => g1 v σ H Q ∨ g2 v σ H Q
theorem pg_or {X : Cx} {tg : Expr} {g1 g2 : TG} (h1 : PG X tg g1) (h2 : PG X tg g2) : PG X tg (gOr g1 g2) :=
  ⟨fun pins s σ H v u Q I r h => h.elim (fun h => h1.run pins s σ H v u Q I r h) fun h => h2.run pins s σ H v u Q I r h⟩
section
variable {K : PySem.W.Frag} {a : Addr} {σ : L2.St} {H : Hp} {v : V} {xs : List V} {g1 g2 : TG} {t : TGs} {n : Nat} {nx : L2.St → Hp → Prop}
theorem g_or1 (h : g1 v σ H nx) : gOr g1 g2 v σ H nx := .inl h
theorem g_or2 (h : g2 v σ H nx) : gOr g1 g2 v σ H nx := .inr h
theorem g_glst (h1 : H a = some (.lst xs)) (hl : xs.length = n) (h : t xs σ H nx) : gLst K n t (.ref a) σ H nx := ⟨a, xs, rfl, SqL.of h1, hl, h⟩
end

/-! ### data seen as PyData -/
/-- v is data told by d, as the heap stands -/
theorem dp_ints {K : PySem.W.Frag} {H : Hp} : ∀ ns : List Int, DpAll K H (ns.map V.int) (ns.map PyData.int)
  | [] => .nil
  | n :: ns => .cons (.int n) (dp_ints ns)
theorem lay_ints : ∀ ns : List Int, PyData.canLayAll0 (ns.map PyData.int) = true
  | [] => by simp [PyData.canLayAll0]
  | n :: ns => by simp [PyData.canLayAll0, PyData.canLay0, lay_ints ns]
theorem depth_ints : ∀ ns : List Int, PyData.depthAll (ns.map PyData.int) ≤ 1
  | [] => by simp [PyData.depthAll]
  | n :: ns => by
    have h1 := depth_ints ns
    simp only [List.map_cons, PyData.depthAll, PyData.depth]
    omega
theorem shaped_ints (ns : List Int) : SeqAt.shaped (.list (ns.map PyData.int)) = true := by
  have h1 := depth_ints ns
  have h2 : PyData.depth (.list (ns.map PyData.int)) ≤ 64 := by
    simp only [PyData.depth]
    omega
  show (PyData.canLay0 (.list (ns.map PyData.int)) && decide (PyData.depth (.list (ns.map PyData.int)) ≤ 64)) = true
  rw [Bool.and_eq_true]
  exact ⟨by simp only [PyData.canLay0]; exact lay_ints ns, decide_eq_true h2⟩
theorem shaped_tints (ns : List Int) : SeqAt.shaped (.tuple (ns.map PyData.int)) = true := by
  have h1 := depth_ints ns
  have h2 : PyData.depth (.tuple (ns.map PyData.int)) ≤ 64 := by
    simp only [PyData.depth]
    omega
  show (PyData.canLay0 (.tuple (ns.map PyData.int)) && decide (PyData.depth (.tuple (ns.map PyData.int)) ≤ 64)) = true
  rw [Bool.and_eq_true]
  exact ⟨by simp only [PyData.canLay0]; exact lay_ints ns, decide_eq_true h2⟩
theorem eqv_ints : ∀ ns ms : List Int, PyData.eqvAll (ns.map PyData.int) (ms.map PyData.int) = decide (ns = ms)
  | [], [] => by simp [PyData.eqvAll]
  | [], _ :: _ => by simp [PyData.eqvAll]
  | _ :: _, [] => by simp [PyData.eqvAll]
  | n :: ns, m :: ms => by
    simp only [List.map_cons, PyData.eqvAll, PyData.eqv, eqv_ints ns ms]
    by_cases h1 : n = m
    · by_cases h2 : ns = ms
      · simp [h1, h2]
      · simp [h1, h2]
    · simp [h1]
/-- a list of ints by its ints -/
inductive Ints : List V → List Int → Prop
  | nil : Ints [] []
  | cons {n : Int} {xs : List V} {ns : List Int} (h : Ints xs ns) : Ints (.int n :: xs) (n :: ns)
theorem Ints.eq : ∀ {xs : List V} {ns : List Int}, Ints xs ns → xs = ns.map V.int
  | _, _, .nil => rfl
  | _, _, .cons h => by rw [List.map_cons, ← h.eq]
theorem Ints.of : ∀ ns : List Int, Ints (ns.map V.int) ns
  | [] => .nil
  | _ :: ns => .cons (Ints.of ns)
section
variable {K : PySem.W.Frag} {a c : Addr} {H : Hp} {Q : VK} {xs ys : List V} {ns ms : List Int}
theorem o_eql (h1 : H a = some (.lst xs)) (h2 : H c = some (.lst ys)) (e1 : Ints xs ns) (e2 : Ints ys ms) (h : Q (.bl (decide (ns = ms))) H) : rEqD K (.ref a) (.ref c) H Q := by
  rw [e1.eq] at h1
  rw [e2.eq] at h2
  refine ⟨.list (ns.map PyData.int), .list (ms.map PyData.int), .lst (SqL.of h1) (dp_ints ns), .lst (SqL.of h2) (dp_ints ms), shaped_ints ns, shaped_ints ms, ?_⟩
  rw [PyData.eqv, eqv_ints]
  exact h
theorem o_nel (h1 : H a = some (.lst xs)) (h2 : H c = some (.lst ys)) (e1 : Ints xs ns) (e2 : Ints ys ms) (h : Q (.bl (!decide (ns = ms))) H) : rNeD K (.ref a) (.ref c) H Q := by
  rw [e1.eq] at h1
  rw [e2.eq] at h2
  refine ⟨.list (ns.map PyData.int), .list (ms.map PyData.int), .lst (SqL.of h1) (dp_ints ns), .lst (SqL.of h2) (dp_ints ms), shaped_ints ns, shaped_ints ms, ?_⟩
  rw [PyData.eqv, eqv_ints]
  exact h
theorem o_eqt (h1 : H a = some (.tup xs)) (h2 : H c = some (.tup ys)) (e1 : Ints xs ns) (e2 : Ints ys ms) (h : Q (.bl (decide (ns = ms))) H) : rEqD K (.ref a) (.ref c) H Q := by
  rw [e1.eq] at h1
  rw [e2.eq] at h2
  refine ⟨.tuple (ns.map PyData.int), .tuple (ms.map PyData.int), .tup (SqT.of h1) (dp_ints ns), .tup (SqT.of h2) (dp_ints ms), shaped_tints ns, shaped_tints ms, ?_⟩
  rw [PyData.eqv, eqv_ints]
  exact h
theorem o_net (h1 : H a = some (.tup xs)) (h2 : H c = some (.tup ys)) (e1 : Ints xs ns) (e2 : Ints ys ms) (h : Q (.bl (!decide (ns = ms))) H) : rNeD K (.ref a) (.ref c) H Q := by
  rw [e1.eq] at h1
  rw [e2.eq] at h2
  refine ⟨.tuple (ns.map PyData.int), .tuple (ms.map PyData.int), .tup (SqT.of h1) (dp_ints ns), .tup (SqT.of h2) (dp_ints ms), shaped_tints ns, shaped_tints ms, ?_⟩
  rw [PyData.eqv, eqv_ints]
  exact h
/-- equal data, at any depth -/
theorem o_eqd {x y : V} {d : PyData} (h1 : Dp K H x d) (h2 : Dp K H y d) (hs : SeqAt.shaped d = true) (h : Q (.bl true) H) : rEqD K x y H Q :=
  ⟨d, d, h1, h2, hs, hs, by rw [SeqAt.eqv_refl d (SeqAt.canLay_of_shaped hs)]; exact h⟩
end

/-! ### loops -/
section
variable {K : PySem.W.Frag} {a : Addr} {σ : L2.St} {H : Hp} {Q : VK} {xs : List V} {tl te : TE} {g : TG} {tb : TS} {tt : TT} {nx bk ct : L2.St → Hp → Prop} {rt : VK} {ta : TA} {vs : List Nat}
def ForL (K : PySem.W.Frag) (g : TG) (tb : TS) (D : Ends) (σ : L2.St) (x : V) (H1 : Hp) : Prop := ∃ a, x = .ref a ∧ (∃ xs, SqL K H1 a xs) ∧ ∃ W : Nat → Nat → L2.St → Hp → Prop, (∃ m, W 0 m σ H1) ∧ ∀ i m σ H, W i m σ H →
  ((Itl K a).stop i H ∧ D.nx σ H) ∨ ((Itl K a).go i H ∧ ∃ N : L2.St → Hp → Prop, (∀ σ' H', N σ' H' → ∃ m', m' < m ∧ W (i + 1) m' σ' H') ∧ ∀ x H', (Itl K a).yld i H x H' → g x σ H' fun σ2 H2 => tb { D with nx := N, ct := N, bk := D.nx } σ2 H2)
def ForR (lo : Int) (n : Nat) (g : TG) (tb : TS) (D : Ends) (σ : L2.St) (H1 : Hp) : Prop := ∃ W : Nat → Nat → L2.St → Hp → Prop, (∃ m, W 0 m σ H1) ∧ ∀ i m σ H, W i m σ H →
  ((Itr lo n).stop i H ∧ D.nx σ H) ∨ ((Itr lo n).go i H ∧ ∃ N : L2.St → Hp → Prop, (∀ σ' H', N σ' H' → ∃ m', m' < m ∧ W (i + 1) m' σ' H') ∧ ∀ x H', (Itr lo n).yld i H x H' → g x σ H' fun σ2 H2 => tb { D with nx := N, ct := N, bk := D.nx } σ2 H2)
def ForR1 (g : TG) (tb : TS) (D : Ends) (σ : L2.St) (vs : List V) (H1 : Hp) : Prop := ∃ j : Int, vs = [.int j] ∧ -(2 ^ 62) ≤ j ∧ j < 2 ^ 62 ∧ ForR 0 j.toNat g tb D σ H1
def ForR2 (g : TG) (tb : TS) (D : Ends) (σ : L2.St) (vs : List V) (H1 : Hp) : Prop := ∃ i j : Int, vs = [.int i, .int j] ∧ (-(2 ^ 62) ≤ i ∧ i < 2 ^ 62 ∧ -(2 ^ 62) ≤ j ∧ j < 2 ^ 62) ∧ ForR i (j - i).toNat g tb D σ H1
theorem g_forl (h : tl σ H fun x H1 => ForL K g tb ⟨nx, rt, bk, ct⟩ σ x H1) : tFor (iList K tl) g tb ⟨nx, rt, bk, ct⟩ σ H := h
theorem g_for1 (h : ta σ H fun vs H1 => ForR1 g tb ⟨nx, rt, bk, ct⟩ σ vs H1) : tFor (iRng1 ta) g tb ⟨nx, rt, bk, ct⟩ σ H := h
theorem g_for2 (h : ta σ H fun vs H1 => ForR2 g tb ⟨nx, rt, bk, ct⟩ σ vs H1) : tFor (iRng2 ta) g tb ⟨nx, rt, bk, ct⟩ σ H := h
/-- a list that stands still -/
theorem f_list (Pv : Nat → L2.St → Hp → Prop) (h1 : SqL K H a xs) (h0 : Pv 0 σ H) (hl : ∀ i σ H', i ≤ xs.length → Pv i σ H' → SqL K H' a xs)
    (hs : ∀ i x σ H', xs[i]? = some x → Pv i σ H' → g x σ H' fun σ2 H2 => tb ⟨Pv (i + 1), rt, nx, Pv (i + 1)⟩ σ2 H2) (hd : ∀ σ H', Pv xs.length σ H' → nx σ H') : ForL K g tb ⟨nx, rt, bk, ct⟩ σ (.ref a) H :=
  ⟨a, rfl, ⟨xs, h1⟩, for_list (D := ⟨nx, rt, bk, ct⟩) Pv h0 hl hs hd⟩
theorem f_rng1 {j : Int} (Pv : Nat → L2.St → Hp → Prop) (b1 : -(2 ^ 62) ≤ j) (b2 : j < 2 ^ 62) (h0 : Pv 0 σ H)
    (hs : ∀ (i : Nat) σ H', (i : Int) < j → Pv i σ H' → g (.int i) σ H' fun σ2 H2 => tb ⟨Pv (i + 1), rt, nx, Pv (i + 1)⟩ σ2 H2) (hd : ∀ σ H', Pv j.toNat σ H' → nx σ H') : ForR1 g tb ⟨nx, rt, bk, ct⟩ σ [.int j] H :=
  ⟨j, rfl, b1, b2, for_range (D := ⟨nx, rt, bk, ct⟩) Pv h0 (fun i σ H hi p => by rw [Int.zero_add]; exact hs i σ H (by omega) p) hd⟩
theorem f_rng2 {i j : Int} (Pv : Nat → L2.St → Hp → Prop) (b : -(2 ^ 62) ≤ i ∧ i < 2 ^ 62 ∧ -(2 ^ 62) ≤ j ∧ j < 2 ^ 62) (h0 : Pv 0 σ H)
    (hs : ∀ (k : Nat) σ H', i + (k : Int) < j → Pv k σ H' → g (.int (i + k)) σ H' fun σ2 H2 => tb ⟨Pv (k + 1), rt, nx, Pv (k + 1)⟩ σ2 H2) (hd : ∀ σ H', Pv (j - i).toNat σ H' → nx σ H') : ForR2 g tb ⟨nx, rt, bk, ct⟩ σ [.int i, .int j] H :=
  ⟨i, j, rfl, b, for_range (D := ⟨nx, rt, bk, ct⟩) Pv h0 (fun k σ H hi p => hs k σ H (by omega) p) hd⟩

/-! comprehensions: what each item gives (none: dropped), by a function -/
def LcE (R : Option V → Hp → Prop) (te : TE) (b : Bool) (σ : L2.St) (H : Hp) : Prop := if b = true then te σ H fun y H4 => R (some y) H4 else R none H
/-- one turn: the target, the test, the item -/
def LcT (g : TG) (tt : TT) (te : TE) (vs : List Nat) (σ : L2.St) (x : V) (H : Hp) (R : Option V → Hp → Prop) : Prop := g x (wipe σ vs) H fun σ2 H2 => wipe σ2 vs = wipe σ vs ∧ tt σ2 H2 fun b H3 => LcE R te b σ2 H3
theorem lce_T {R : Option V → Hp → Prop} (h : te σ H fun y H4 => R (some y) H4) : LcE R te true σ H := h
theorem lce_F {R : Option V → Hp → Prop} (h : R none H) : LcE R te false σ H := h
theorem lce_y {R : Option V → Hp → Prop} {P : Prop} {dP : Decidable P} (e : P) (h : te σ H fun y H4 => R (some y) H4) : LcE R te (decide P) σ H := by rw [decide_eq_true e]; exact h
theorem lce_n {R : Option V → Hp → Prop} {P : Prop} {dP : Decidable P} (e : ¬ P) (h : R none H) : LcE R te (decide P) σ H := by rw [decide_eq_false e]; exact h
theorem lce_not {R : Option V → Hp → Prop} {b : Bool} (h1 : b = false → te σ H fun y H4 => R (some y) H4) (h2 : b = true → R none H) : LcE R te (!b) σ H := by
  cases b
  · exact h1 rfl
  · exact h2 rfl
theorem lce_b {R : Option V → Hp → Prop} {b : Bool} (h1 : b = true → te σ H fun y H4 => R (some y) H4) (h2 : b = false → R none H) : LcE R te b σ H := by
  cases b
  · exact h2 rfl
  · exact h1 rfl
theorem g_yes {Q : Bool → Hp → Prop} (h : Q true H) : tYes σ H Q := h
def LcL (K : PySem.W.Frag) (g : TG) (tt : TT) (te : TE) (vs : List Nat) (σ : L2.St) (x : V) (H1 : Hp) (Q : VK) : Prop := ∃ a, x = .ref a ∧ (∃ xs, SqL K H1 a xs) ∧ ∀ D, H1 D = none → ∃ W : Nat → Nat → Hp → Prop, (∃ m, W 0 m (upd H1 D (.lst []))) ∧ ∀ i m H, W i m H →
  ((Itl K a).stop i H ∧ Q (.ref D) H) ∨ ((Itl K a).go i H ∧ ∃ Nx : Hp → Prop, (∀ H', Nx H' → ∃ m', m' < m ∧ W (i + 1) m' H') ∧ ∀ x H', (Itl K a).yld i H x H' → g x (wipe σ vs) H' fun σ2 H2 => wipe σ2 vs = wipe σ vs ∧ tt σ2 H2 fun b H3 =>
    if b = true then te σ2 H3 fun y H4 => ∃ acc, H4 D = some (.lst acc) ∧ acc.length < sizeLine ∧ Nx (upd H4 D (.lst (acc ++ [y]))) else Nx H3)
def LcR (lo : Int) (n : Nat) (g : TG) (tt : TT) (te : TE) (vs : List Nat) (σ : L2.St) (H1 : Hp) (Q : VK) : Prop := ∀ D, H1 D = none → ∃ W : Nat → Nat → Hp → Prop, (∃ m, W 0 m (upd H1 D (.lst []))) ∧ ∀ i m H, W i m H →
  ((Itr lo n).stop i H ∧ Q (.ref D) H) ∨ ((Itr lo n).go i H ∧ ∃ Nx : Hp → Prop, (∀ H', Nx H' → ∃ m', m' < m ∧ W (i + 1) m' H') ∧ ∀ x H', (Itr lo n).yld i H x H' → g x (wipe σ vs) H' fun σ2 H2 => wipe σ2 vs = wipe σ vs ∧ tt σ2 H2 fun b H3 =>
    if b = true then te σ2 H3 fun y H4 => ∃ acc, H4 D = some (.lst acc) ∧ acc.length < sizeLine ∧ Nx (upd H4 D (.lst (acc ++ [y]))) else Nx H3)
def LcR1 (g : TG) (tt : TT) (te : TE) (vs : List Nat) (σ : L2.St) (us : List V) (H1 : Hp) (Q : VK) : Prop := ∃ j : Int, us = [.int j] ∧ -(2 ^ 62) ≤ j ∧ j < 2 ^ 62 ∧ LcR 0 j.toNat g tt te vs σ H1 Q
def LcR2 (g : TG) (tt : TT) (te : TE) (vs : List Nat) (σ : L2.St) (us : List V) (H1 : Hp) (Q : VK) : Prop := ∃ i j : Int, us = [.int i, .int j] ∧ (-(2 ^ 62) ≤ i ∧ i < 2 ^ 62 ∧ -(2 ^ 62) ≤ j ∧ j < 2 ^ 62) ∧ LcR i (j - i).toNat g tt te vs σ H1 Q
theorem g_lcl (h : tl σ H fun x H1 => LcL K g tt te vs σ x H1 Q) : tLc (iList K tl) g tt te vs σ H Q := h
theorem g_lc1 (h : ta σ H fun us H1 => LcR1 g tt te vs σ us H1 Q) : tLc (iRng1 ta) g tt te vs σ H Q := h
theorem g_lc2 (h : ta σ H fun us H1 => LcR2 g tt te vs σ us H1 Q) : tLc (iRng2 ta) g tt te vs σ H Q := h
theorem take_fm {f : V → Option V} {xs : List V} {i : Nat} {x : V} (h : xs[i]? = some x) : (xs.take (i + 1)).filterMap f = (xs.take i).filterMap f ++ (match f x with | some y => [y] | none => []) := by
  rw [List.take_add_one, h, List.filterMap_append]
  show _ ++ List.filterMap f [x] = _
  rw [List.filterMap_cons, List.filterMap_nil]
  cases f x <;> rfl
theorem fm_len {f : V → Option V} : ∀ xs : List V, (xs.filterMap f).length ≤ xs.length
  | [] => Nat.le_refl _
  | x :: xs => by
    have := fm_len (f := f) xs
    rw [List.filterMap_cons]
    cases f x
    · show (xs.filterMap f).length ≤ _; rw [List.length_cons]; omega
    · show (_ :: xs.filterMap f).length ≤ _; rw [List.length_cons, List.length_cons]; omega
/-- a comprehension over a list; its items make nothing that stays in it -/
theorem lc_fun (f : V → Option V) (h1 : SqL K H a xs) (hz : xs.length ≤ 100000)
    (hs : ∀ x ∈ xs, ∀ H1, Same H H1 → ∀ R : Option V → Hp → Prop, (∀ H2, Same H1 H2 → R (f x) H2) → LcT g tt te vs σ x H1 R)
    (k : ∀ D H', Fr H D → Same H H' → H' D = some (.lst (xs.filterMap f)) → Q (.ref D) H') : LcL K g tt te vs σ (.ref a) H Q := by
  refine ⟨a, rfl, ⟨xs, h1⟩, fun D hD => lc_list (xs := xs) (fun i H' => i ≤ xs.length ∧ Same H H' ∧ H' D = some (.lst ((xs.take i).filterMap f))) ⟨Nat.zero_le _, same_upd hD, upd_same⟩ (fun i H' _ q => q.2.1.seq h1) ?_ ?_⟩
  · rintro i x H1 hx ⟨hi, sH, eD⟩
    have hlt : i < xs.length := (List.getElem?_eq_some_iff.mp hx).1
    refine hs x (List.mem_of_getElem? hx) H1 sH (fun o H4 => match o with
      | some y => ∃ acc, H4 D = some (.lst acc) ∧ acc.length < sizeLine ∧ (i + 1 ≤ xs.length ∧ Same H (upd H4 D (.lst (acc ++ [y]))) ∧ (upd H4 D (.lst (acc ++ [y]))) D = some (.lst ((xs.take (i + 1)).filterMap f)))
      | none => i + 1 ≤ xs.length ∧ Same H H4 ∧ H4 D = some (.lst ((xs.take (i + 1)).filterMap f))) fun H2 s2 => ?_
    have tk := take_fm (f := f) hx
    cases e : f x with
    | none =>
      rw [e] at tk
      exact ⟨hlt, sH.trans s2, by rw [tk, List.append_nil]; exact s2 _ _ eD⟩
    | some y =>
      rw [e] at tk
      refine ⟨_, s2 _ _ eD, ?_, hlt, fun b o q => ?_, by rw [upd_same, tk]⟩
      · have l1 := fm_len (f := f) (xs.take i)
        rw [List.length_take] at l1
        exact Nat.lt_of_le_of_lt (by omega : _ ≤ 100000) (by decide)
      · rw [upd_ne (ne_of_none q hD)]
        exact s2 _ _ (sH _ _ q)
  · rintro H1 ⟨_, sH, eD⟩
    rw [List.take_length] at eD
    exact k D H1 ⟨hD⟩ sH eD
/-- over a range -/
def rngV (lo : Int) (n : Nat) : List V := (List.range n).map fun i => V.int (lo + (i : Nat))
theorem rngV_at {lo : Int} {n i : Nat} (h : i < n) : (rngV lo n)[i]? = some (V.int (lo + (i : Nat))) := by
  unfold rngV
  rw [List.getElem?_map, List.getElem?_range h]
  rfl
theorem rngV_len (lo : Int) (n : Nat) : (rngV lo n).length = n := by unfold rngV; rw [List.length_map, List.length_range]
theorem lcr_fun {lo : Int} {n : Nat} (f : V → Option V) (hz : n ≤ 100000)
    (hs : ∀ i : Nat, i < n → ∀ H1, Same H H1 → ∀ R : Option V → Hp → Prop, (∀ H2, Same H1 H2 → R (f (.int (lo + i))) H2) → LcT g tt te vs σ (.int (lo + i)) H1 R)
    (k : ∀ D H', Fr H D → Same H H' → H' D = some (.lst ((rngV lo n).filterMap f)) → Q (.ref D) H') : LcR lo n g tt te vs σ H Q := by
  refine fun D hD => lc_range (fun i H' => i ≤ n ∧ Same H H' ∧ H' D = some (.lst (((rngV lo n).take i).filterMap f))) ⟨Nat.zero_le _, same_upd hD, upd_same⟩ ?_ ?_
  · rintro i H1 hlt ⟨hi, sH, eD⟩
    have hx := rngV_at (lo := lo) hlt
    refine hs i hlt H1 sH (fun o H4 => match o with
      | some y => ∃ acc, H4 D = some (.lst acc) ∧ acc.length < sizeLine ∧ (i + 1 ≤ n ∧ Same H (upd H4 D (.lst (acc ++ [y]))) ∧ (upd H4 D (.lst (acc ++ [y]))) D = some (.lst (((rngV lo n).take (i + 1)).filterMap f)))
      | none => i + 1 ≤ n ∧ Same H H4 ∧ H4 D = some (.lst (((rngV lo n).take (i + 1)).filterMap f))) fun H2 s2 => ?_
    have tk := take_fm (f := f) hx
    cases e : f (V.int (lo + (i : Nat))) with
    | none =>
      rw [e] at tk
      exact ⟨hlt, sH.trans s2, by rw [tk, List.append_nil]; exact s2 _ _ eD⟩
    | some y =>
      rw [e] at tk
      refine ⟨_, s2 _ _ eD, ?_, hlt, fun b o q => ?_, by rw [upd_same, tk]⟩
      · have l1 := fm_len (f := f) ((rngV lo n).take i)
        rw [List.length_take, rngV_len] at l1
        exact Nat.lt_of_le_of_lt (by omega : _ ≤ 100000) (by decide)
      · rw [upd_ne (ne_of_none q hD)]
        exact s2 _ _ (sH _ _ q)
  · rintro H1 ⟨_, sH, eD⟩
    have e1 : (rngV lo n).take n = rngV lo n := List.take_of_length_le (Nat.le_of_eq (rngV_len lo n))
    rw [e1] at eD
    exact k D H1 ⟨hD⟩ sH eD
theorem lcr1_fun {j : Int} (f : V → Option V) (b1 : -(2 ^ 62) ≤ j) (hz : j ≤ 100000)
    (hs : ∀ i : Nat, (i : Int) < j → ∀ H1, Same H H1 → ∀ R : Option V → Hp → Prop, (∀ H2, Same H1 H2 → R (f (.int i)) H2) → LcT g tt te vs σ (.int i) H1 R)
    (k : ∀ D H', Fr H D → Same H H' → H' D = some (.lst ((rngV 0 j.toNat).filterMap f)) → Q (.ref D) H') : LcR1 g tt te vs σ [.int j] H Q :=
  ⟨j, rfl, b1, by omega, lcr_fun f (by omega) (fun i hi H1 s1 R => by rw [Int.zero_add]; exact hs i (by omega) H1 s1 R) k⟩
theorem lcr2_fun {i j : Int} (f : V → Option V) (b1 : -(2 ^ 62) ≤ i ∧ i < 2 ^ 62 ∧ -(2 ^ 62) ≤ j ∧ j < 2 ^ 62) (hz : j - i ≤ 100000)
    (hs : ∀ k : Nat, i + (k : Int) < j → ∀ H1, Same H H1 → ∀ R : Option V → Hp → Prop, (∀ H2, Same H1 H2 → R (f (.int (i + k))) H2) → LcT g tt te vs σ (.int (i + k)) H1 R)
    (k : ∀ D H', Fr H D → Same H H' → H' D = some (.lst ((rngV i (j - i).toNat).filterMap f)) → Q (.ref D) H') : LcR2 g tt te vs σ [.int i, .int j] H Q :=
  ⟨i, j, rfl, b1, lcr_fun f (by omega) (fun k hk H1 s1 R => hs k (by omega) H1 s1 R) k⟩
end
end L3

namespace L3
open PySem L2 PyProof.Rows
section
variable {H : Hp} {tt : TT} {te : TE} {R : Option V → Hp → Prop} {v : V} {a0 a1 a2 a3 a4 a5 a6 a7 a8 a9 a10 a11 a12 a13 a14 a15 a16 a17 a18 a19 a20 : Option V} {r : L2.St}
theorem lct_0 (h : tt (some v :: r) H fun b H3 => LcE R te b (some v :: r) H3) : LcT (gName 0) tt te [0] (a0 :: r) v H R := ⟨rfl, h⟩
theorem lct_1 (h : tt (a0 :: some v :: r) H fun b H3 => LcE R te b (a0 :: some v :: r) H3) : LcT (gName 1) tt te [1] (a0 :: a1 :: r) v H R := ⟨rfl, h⟩
theorem lct_2 (h : tt (a0 :: a1 :: some v :: r) H fun b H3 => LcE R te b (a0 :: a1 :: some v :: r) H3) : LcT (gName 2) tt te [2] (a0 :: a1 :: a2 :: r) v H R := ⟨rfl, h⟩
theorem lct_3 (h : tt (a0 :: a1 :: a2 :: some v :: r) H fun b H3 => LcE R te b (a0 :: a1 :: a2 :: some v :: r) H3) : LcT (gName 3) tt te [3] (a0 :: a1 :: a2 :: a3 :: r) v H R := ⟨rfl, h⟩
theorem lct_4 (h : tt (a0 :: a1 :: a2 :: a3 :: some v :: r) H fun b H3 => LcE R te b (a0 :: a1 :: a2 :: a3 :: some v :: r) H3) : LcT (gName 4) tt te [4] (a0 :: a1 :: a2 :: a3 :: a4 :: r) v H R := ⟨rfl, h⟩
theorem lct_5 (h : tt (a0 :: a1 :: a2 :: a3 :: a4 :: some v :: r) H fun b H3 => LcE R te b (a0 :: a1 :: a2 :: a3 :: a4 :: some v :: r) H3) : LcT (gName 5) tt te [5] (a0 :: a1 :: a2 :: a3 :: a4 :: a5 :: r) v H R := ⟨rfl, h⟩
theorem lct_6 (h : tt (a0 :: a1 :: a2 :: a3 :: a4 :: a5 :: some v :: r) H fun b H3 => LcE R te b (a0 :: a1 :: a2 :: a3 :: a4 :: a5 :: some v :: r) H3) : LcT (gName 6) tt te [6] (a0 :: a1 :: a2 :: a3 :: a4 :: a5 :: a6 :: r) v H R := ⟨rfl, h⟩
theorem lct_7 (h : tt (a0 :: a1 :: a2 :: a3 :: a4 :: a5 :: a6 :: some v :: r) H fun b H3 => LcE R te b (a0 :: a1 :: a2 :: a3 :: a4 :: a5 :: a6 :: some v :: r) H3) : LcT (gName 7) tt te [7] (a0 :: a1 :: a2 :: a3 :: a4 :: a5 :: a6 :: a7 :: r) v H R := ⟨rfl, h⟩
theorem lct_8 (h : tt (a0 :: a1 :: a2 :: a3 :: a4 :: a5 :: a6 :: a7 :: some v :: r) H fun b H3 => LcE R te b (a0 :: a1 :: a2 :: a3 :: a4 :: a5 :: a6 :: a7 :: some v :: r) H3) : LcT (gName 8) tt te [8] (a0 :: a1 :: a2 :: a3 :: a4 :: a5 :: a6 :: a7 :: a8 :: r) v H R := ⟨rfl, h⟩
theorem lct_9 (h : tt (a0 :: a1 :: a2 :: a3 :: a4 :: a5 :: a6 :: a7 :: a8 :: some v :: r) H fun b H3 => LcE R te b (a0 :: a1 :: a2 :: a3 :: a4 :: a5 :: a6 :: a7 :: a8 :: some v :: r) H3) : LcT (gName 9) tt te [9] (a0 :: a1 :: a2 :: a3 :: a4 :: a5 :: a6 :: a7 :: a8 :: a9 :: r) v H R := ⟨rfl, h⟩
theorem lct_10 (h : tt (a0 :: a1 :: a2 :: a3 :: a4 :: a5 :: a6 :: a7 :: a8 :: a9 :: some v :: r) H fun b H3 => LcE R te b (a0 :: a1 :: a2 :: a3 :: a4 :: a5 :: a6 :: a7 :: a8 :: a9 :: some v :: r) H3) : LcT (gName 10) tt te [10] (a0 :: a1 :: a2 :: a3 :: a4 :: a5 :: a6 :: a7 :: a8 :: a9 :: a10 :: r) v H R := ⟨rfl, h⟩
theorem lct_11 (h : tt (a0 :: a1 :: a2 :: a3 :: a4 :: a5 :: a6 :: a7 :: a8 :: a9 :: a10 :: some v :: r) H fun b H3 => LcE R te b (a0 :: a1 :: a2 :: a3 :: a4 :: a5 :: a6 :: a7 :: a8 :: a9 :: a10 :: some v :: r) H3) : LcT (gName 11) tt te [11] (a0 :: a1 :: a2 :: a3 :: a4 :: a5 :: a6 :: a7 :: a8 :: a9 :: a10 :: a11 :: r) v H R := ⟨rfl, h⟩
theorem lct_12 (h : tt (a0 :: a1 :: a2 :: a3 :: a4 :: a5 :: a6 :: a7 :: a8 :: a9 :: a10 :: a11 :: some v :: r) H fun b H3 => LcE R te b (a0 :: a1 :: a2 :: a3 :: a4 :: a5 :: a6 :: a7 :: a8 :: a9 :: a10 :: a11 :: some v :: r) H3) : LcT (gName 12) tt te [12] (a0 :: a1 :: a2 :: a3 :: a4 :: a5 :: a6 :: a7 :: a8 :: a9 :: a10 :: a11 :: a12 :: r) v H R := ⟨rfl, h⟩
theorem lct_13 (h : tt (a0 :: a1 :: a2 :: a3 :: a4 :: a5 :: a6 :: a7 :: a8 :: a9 :: a10 :: a11 :: a12 :: some v :: r) H fun b H3 => LcE R te b (a0 :: a1 :: a2 :: a3 :: a4 :: a5 :: a6 :: a7 :: a8 :: a9 :: a10 :: a11 :: a12 :: some v :: r) H3) : LcT (gName 13) tt te [13] (a0 :: a1 :: a2 :: a3 :: a4 :: a5 :: a6 :: a7 :: a8 :: a9 :: a10 :: a11 :: a12 :: a13 :: r) v H R := ⟨rfl, h⟩
theorem lct_14 (h : tt (a0 :: a1 :: a2 :: a3 :: a4 :: a5 :: a6 :: a7 :: a8 :: a9 :: a10 :: a11 :: a12 :: a13 :: some v :: r) H fun b H3 => LcE R te b (a0 :: a1 :: a2 :: a3 :: a4 :: a5 :: a6 :: a7 :: a8 :: a9 :: a10 :: a11 :: a12 :: a13 :: some v :: r) H3) : LcT (gName 14) tt te [14] (a0 :: a1 :: a2 :: a3 :: a4 :: a5 :: a6 :: a7 :: a8 :: a9 :: a10 :: a11 :: a12 :: a13 :: a14 :: r) v H R := ⟨rfl, h⟩
theorem lct_15 (h : tt (a0 :: a1 :: a2 :: a3 :: a4 :: a5 :: a6 :: a7 :: a8 :: a9 :: a10 :: a11 :: a12 :: a13 :: a14 :: some v :: r) H fun b H3 => LcE R te b (a0 :: a1 :: a2 :: a3 :: a4 :: a5 :: a6 :: a7 :: a8 :: a9 :: a10 :: a11 :: a12 :: a13 :: a14 :: some v :: r) H3) : LcT (gName 15) tt te [15] (a0 :: a1 :: a2 :: a3 :: a4 :: a5 :: a6 :: a7 :: a8 :: a9 :: a10 :: a11 :: a12 :: a13 :: a14 :: a15 :: r) v H R := ⟨rfl, h⟩
theorem lct_16 (h : tt (a0 :: a1 :: a2 :: a3 :: a4 :: a5 :: a6 :: a7 :: a8 :: a9 :: a10 :: a11 :: a12 :: a13 :: a14 :: a15 :: some v :: r) H fun b H3 => LcE R te b (a0 :: a1 :: a2 :: a3 :: a4 :: a5 :: a6 :: a7 :: a8 :: a9 :: a10 :: a11 :: a12 :: a13 :: a14 :: a15 :: some v :: r) H3) : LcT (gName 16) tt te [16] (a0 :: a1 :: a2 :: a3 :: a4 :: a5 :: a6 :: a7 :: a8 :: a9 :: a10 :: a11 :: a12 :: a13 :: a14 :: a15 :: a16 :: r) v H R := ⟨rfl, h⟩
theorem lct_17 (h : tt (a0 :: a1 :: a2 :: a3 :: a4 :: a5 :: a6 :: a7 :: a8 :: a9 :: a10 :: a11 :: a12 :: a13 :: a14 :: a15 :: a16 :: some v :: r) H fun b H3 => LcE R te b (a0 :: a1 :: a2 :: a3 :: a4 :: a5 :: a6 :: a7 :: a8 :: a9 :: a10 :: a11 :: a12 :: a13 :: a14 :: a15 :: a16 :: some v :: r) H3) : LcT (gName 17) tt te [17] (a0 :: a1 :: a2 :: a3 :: a4 :: a5 :: a6 :: a7 :: a8 :: a9 :: a10 :: a11 :: a12 :: a13 :: a14 :: a15 :: a16 :: a17 :: r) v H R := ⟨rfl, h⟩
theorem lct_18 (h : tt (a0 :: a1 :: a2 :: a3 :: a4 :: a5 :: a6 :: a7 :: a8 :: a9 :: a10 :: a11 :: a12 :: a13 :: a14 :: a15 :: a16 :: a17 :: some v :: r) H fun b H3 => LcE R te b (a0 :: a1 :: a2 :: a3 :: a4 :: a5 :: a6 :: a7 :: a8 :: a9 :: a10 :: a11 :: a12 :: a13 :: a14 :: a15 :: a16 :: a17 :: some v :: r) H3) : LcT (gName 18) tt te [18] (a0 :: a1 :: a2 :: a3 :: a4 :: a5 :: a6 :: a7 :: a8 :: a9 :: a10 :: a11 :: a12 :: a13 :: a14 :: a15 :: a16 :: a17 :: a18 :: r) v H R := ⟨rfl, h⟩
theorem lct_19 (h : tt (a0 :: a1 :: a2 :: a3 :: a4 :: a5 :: a6 :: a7 :: a8 :: a9 :: a10 :: a11 :: a12 :: a13 :: a14 :: a15 :: a16 :: a17 :: a18 :: some v :: r) H fun b H3 => LcE R te b (a0 :: a1 :: a2 :: a3 :: a4 :: a5 :: a6 :: a7 :: a8 :: a9 :: a10 :: a11 :: a12 :: a13 :: a14 :: a15 :: a16 :: a17 :: a18 :: some v :: r) H3) : LcT (gName 19) tt te [19] (a0 :: a1 :: a2 :: a3 :: a4 :: a5 :: a6 :: a7 :: a8 :: a9 :: a10 :: a11 :: a12 :: a13 :: a14 :: a15 :: a16 :: a17 :: a18 :: a19 :: r) v H R := ⟨rfl, h⟩
theorem lct_20 (h : tt (a0 :: a1 :: a2 :: a3 :: a4 :: a5 :: a6 :: a7 :: a8 :: a9 :: a10 :: a11 :: a12 :: a13 :: a14 :: a15 :: a16 :: a17 :: a18 :: a19 :: some v :: r) H fun b H3 => LcE R te b (a0 :: a1 :: a2 :: a3 :: a4 :: a5 :: a6 :: a7 :: a8 :: a9 :: a10 :: a11 :: a12 :: a13 :: a14 :: a15 :: a16 :: a17 :: a18 :: a19 :: some v :: r) H3) : LcT (gName 20) tt te [20] (a0 :: a1 :: a2 :: a3 :: a4 :: a5 :: a6 :: a7 :: a8 :: a9 :: a10 :: a11 :: a12 :: a13 :: a14 :: a15 :: a16 :: a17 :: a18 :: a19 :: a20 :: r) v H R := ⟨rfl, h⟩
end
end L3

namespace L3
open PySem L2 PyProof.Rows
section
variable {σ : L2.St} {H : Hp} {nx bk ct : L2.St → Hp → Prop} {rt : VK} {ta : TA} {i j l : Nat} {u v w : V}
def Par2 (i j : Nat) (vs : List V) (σ : L2.St) (H : Hp) (nx : L2.St → Hp → Prop) : Prop := ∃ v w, vs = [v, w] ∧ nx ((σ.set i (some v)).set j (some w)) H
def Par3 (i j l : Nat) (vs : List V) (σ : L2.St) (H : Hp) (nx : L2.St → Hp → Prop) : Prop := ∃ u v w, vs = [u, v, w] ∧ nx (((σ.set i (some u)).set j (some v)).set l (some w)) H
theorem g_par (h : ta σ H fun vs H1 => Par2 i j vs σ H1 nx) : tPar i j ta ⟨nx, rt, bk, ct⟩ σ H := h
theorem g_par3 (h : ta σ H fun vs H1 => Par3 i j l vs σ H1 nx) : tPar3 i j l ta ⟨nx, rt, bk, ct⟩ σ H := h
theorem par2 (h : gName i v σ H fun σ1 H1 => gName j w σ1 H1 nx) : Par2 i j [v, w] σ H nx := ⟨v, w, rfl, h⟩
theorem par3 (h : gName i u σ H fun σ1 H1 => gName j v σ1 H1 fun σ2 H2 => gName l w σ2 H2 nx) : Par3 i j l [u, v, w] σ H nx := ⟨u, v, w, rfl, h⟩
end
end L3

/-! ### the rules that name the written part, with it as a letter (a comprehension's block has another context, but the same K) -/
namespace L3
open PySem L2 PyProof.Rows
section
variable {X : Cx} {K : PySem.W.Frag} {e o a b : Expr} {es : List Expr} {ta tb te to tl : TE} {t : TA} {f : Str} {pos pos' apos cpos : Pos} {tg : Expr} {ts : TGs} {n k : Nat}
theorem ptTK (hK : X.K = K) (ha : PE X a ta) (he : ∀ whole, isTrue a X.env whole = (do let v ← whole; standAt a.pos; holding [v] (truthy v))) : PT X a (tTr K ta) := by subst hK; exact ptT ha he
theorem pe_fldK (hK : X.K = K) (he : PE X e ta) (hb : attributeBase e f X.env (eval e X.env) = eval e X.env) : PE X (.Attribute e f pos) (tFld K ta f) := by subst hK; exact pe_fld he hb
theorem ps_fldK (hK : X.K = K) (ha : PE X o ta) {value : Expr} {tv : TE} (hv : PE X value tv) (hs : swapsWith value (some (.Attribute o f pos')) pos.line X.env = pure false) : PS X (.Assign [.Attribute o f pos'] value pos) (sFld K ta tv f) := by subst hK; exact ps_fld ha hv hs
theorem c_lenK (hK : X.K = K) : CallR X (.builtin "len") (rLen K) := by subst hK; exact c_len
theorem c_listK (hK : X.K = K) : CallR X (.type "list") (rListOf K) := by subst hK; exact c_list
theorem c_isiK (hK : X.K = K) : CallR X (.builtin "isinstance") (rIsi K) := by subst hK; exact call_isi
theorem c_sumK (hK : X.K = K) (hc : X.calm = true) : CallR X (.builtin "sum") (rSum K) := by subst hK; exact cr_sum hc
theorem c_max1K (hK : X.K = K) (hc : X.calm = true) : CallR X (.builtin "max") (rMax K) := by subst hK; exact cr_max hc
theorem c_min1K (hK : X.K = K) (hc : X.calm = true) : CallR X (.builtin "min") (rMin K) := by subst hK; exact cr_min hc
theorem c_allK (hK : X.K = K) (hc : X.calm = true) : CallR X (.builtin "all") (rAll K) := by subst hK; exact cr_all hc
theorem c_anyK (hK : X.K = K) (hc : X.calm = true) : CallR X (.builtin "any") (rAny K) := by subst hK; exact cr_any hc
theorem c_sortedK (hK : X.K = K) : CallR X (.builtin "sorted") (rSortedI K) := by subst hK; exact cr_sortedI
theorem ix_seqK (hK : X.K = K) : IxR X (rIx K) := by subst hK; exact ix_seq
theorem op_addK (hK : X.K = K) : OpR X (binaryOp .Add) (rOr rAddI (rOr rCat (rOr rAddS (rCatT K)))) := by subst hK; exact op_addU
theorem op_eqK (hK : X.K = K) (hu : X.A.units + 64 < cLine) : OpR X (compareOp .Eq) (rOr rEq (rEqD K)) := by subst hK; exact op_eqU hu
theorem op_neK (hK : X.K = K) (hu : X.A.units + 64 < cLine) : OpR X (compareOp .NotEq) (rOr rNe (rNeD K)) := by subst hK; exact op_neU hu
theorem op_inK (hK : X.K = K) : OpR X (compareOp .In) (rIn K false) := by subst hK; exact op_in_seq
theorem op_ninK (hK : X.K = K) : OpR X (compareOp .NotIn) (rIn K true) := by subst hK; exact op_notIn_seq
theorem pi_listK (hK : X.K = K) {l : Expr} (hl : PE X l tl) : PI X tg l (iList K tl) := by subst hK; exact pi_list hl
theorem pi_tupK (hK : X.K = K) {l : Expr} (hl : PE X l tl) : PI X tg l (iTup K tl) := by subst hK; exact pi_tup hl
theorem pg_tlK (hK : X.K = K) (hc : X.calm = true) (h : PGs X es ts)
    (hn : (assignEach es X.env).length = n := by rfl) (hst : (assignEach es X.env).findIdx? (·.1) = none := by rfl) : PG X (.Tuple es k pos) (gOr (gTup K n ts) (gLst K n ts)) := by subst hK; exact pg_or (pg_tup hc h hn hst) (pg_lst hc h hn hst)
theorem sl_listK (hK : X.K = K) : SlR X (rSlL K) := by subst hK; exact sl_list
theorem sl_tupK (hK : X.K = K) : SlR X (rSlT K) := by subst hK; exact sl_tup
theorem pe_notTK (hK : X.K = K) (ha : PE X a ta) : PE X (.UnaryOp .Not a pos) (tNotT K ta) := by subst hK; exact pe_notT ha
theorem pe_bm0K {T id : String} {name : Str} {r : V → List V → Hp → VK → Prop} (hK : X.K = K) (pa : PlainAttrs T) (slot : Slot T name id) (hty : typeOf (.builtin id) = pure (.type "method_descriptor")) (hm : MtR X id r) (ho : PE X o to)
    (hbase : attributeBase o name X.env (eval o X.env) = eval o X.env := by rfl) (hline : (apos.endLine == cpos.line) = true := by rfl) : PE X (.Call (.Attribute o name apos) [] [] cpos) (tBM0 K T r to) := by subst hK; exact pe_bm0 pa slot hty hm ho hbase hline
theorem pe_bmK {T id : String} {name : Str} {r : V → List V → Hp → VK → Prop} (hK : X.K = K) (pa : PlainAttrs T) (slot : Slot T name id) (hty : typeOf (.builtin id) = pure (.type "method_descriptor")) (hm : MtR X id r) (ho : PE X o to) (ha : PA X (e :: es) t)
    (hbase : attributeBase o name X.env (eval o X.env) = eval o X.env := by rfl)
    (hfew : ((backTo cpos (starEach (e :: es) X.env)).all (fun x => !x.1) && (backToKw cpos (keywordEach [] X.env)).all (fun x => x.1.isSome)
      && decide ((e :: es).length + ([] : List Keyword).length + (if ([] : List Keyword).isEmpty then 0 else 1) < 30)) = true := by rfl)
    (hline : (apos.endLine == cpos.line) = true := by rfl) (hs : starEach (e :: es) X.env = (false, eval e X.env) :: starEach es X.env := by rfl) (hplain : (backTo cpos (starEach es X.env)).any (·.1) = false := by rfl) :
    PE X (.Call (.Attribute o name apos) (e :: es) [] cpos) (tBM K T r to t) := by subst hK; exact pe_bm pa slot hty hm ho ha hbase hfew hline hs hplain
end
end L3

/-! ### loops that keep all but some slots, and only make objects -/
namespace L3
open PySem L2 PyProof.Rows
section
variable {K : PySem.W.Frag} {a : Addr} {σ : L2.St} {H : Hp} {xs : List V} {g : TG} {tb : TS} {nx bk ct : L2.St → Hp → Prop} {rt : VK}
theorem f_each1 (i0 : Nat) (h1 : H a = some (.lst xs)) (h0 : ∃ (v0 : Option V), σ = (σ.set i0 v0))
    (hs : ∀ x ∈ xs, ∀ (v0 : Option V) (H' : Hp), Same H H' → g x (σ.set i0 v0) H' fun σ2 H2 => tb ⟨fun σ3 H3 => (∃ (v0 : Option V), σ3 = (σ.set i0 v0)) ∧ Same H H3, rt, nx, fun σ3 H3 => (∃ (v0 : Option V), σ3 = (σ.set i0 v0)) ∧ Same H H3⟩ σ2 H2)
    (hd : ∀ (v0 : Option V) (H' : Hp), Same H H' → nx (σ.set i0 v0) H') : ForL K g tb ⟨nx, rt, bk, ct⟩ σ (.ref a) H := by
  refine f_list (fun _ σ3 H3 => (∃ (v0 : Option V), σ3 = (σ.set i0 v0)) ∧ Same H H3) (SqL.of h1) ⟨h0, Same.refl _⟩ (fun i σ' H' _ q => SqL.of (q.2 _ _ h1)) ?_ ?_
  · rintro i x σ' H' hx ⟨⟨v0, rfl⟩, s⟩
    exact hs x (List.mem_of_getElem? hx) v0 H' s
  · rintro σ' H' ⟨⟨v0, rfl⟩, s⟩
    exact hd v0 H' s
theorem f_each2 (i0 i1 : Nat) (h1 : H a = some (.lst xs)) (h0 : ∃ (v0 : Option V) (v1 : Option V), σ = ((σ.set i0 v0).set i1 v1))
    (hs : ∀ x ∈ xs, ∀ (v0 : Option V) (v1 : Option V) (H' : Hp), Same H H' → g x ((σ.set i0 v0).set i1 v1) H' fun σ2 H2 => tb ⟨fun σ3 H3 => (∃ (v0 : Option V) (v1 : Option V), σ3 = ((σ.set i0 v0).set i1 v1)) ∧ Same H H3, rt, nx, fun σ3 H3 => (∃ (v0 : Option V) (v1 : Option V), σ3 = ((σ.set i0 v0).set i1 v1)) ∧ Same H H3⟩ σ2 H2)
    (hd : ∀ (v0 : Option V) (v1 : Option V) (H' : Hp), Same H H' → nx ((σ.set i0 v0).set i1 v1) H') : ForL K g tb ⟨nx, rt, bk, ct⟩ σ (.ref a) H := by
  refine f_list (fun _ σ3 H3 => (∃ (v0 : Option V) (v1 : Option V), σ3 = ((σ.set i0 v0).set i1 v1)) ∧ Same H H3) (SqL.of h1) ⟨h0, Same.refl _⟩ (fun i σ' H' _ q => SqL.of (q.2 _ _ h1)) ?_ ?_
  · rintro i x σ' H' hx ⟨⟨v0, v1, rfl⟩, s⟩
    exact hs x (List.mem_of_getElem? hx) v0 v1 H' s
  · rintro σ' H' ⟨⟨v0, v1, rfl⟩, s⟩
    exact hd v0 v1 H' s
theorem f_each3 (i0 i1 i2 : Nat) (h1 : H a = some (.lst xs)) (h0 : ∃ (v0 : Option V) (v1 : Option V) (v2 : Option V), σ = (((σ.set i0 v0).set i1 v1).set i2 v2))
    (hs : ∀ x ∈ xs, ∀ (v0 : Option V) (v1 : Option V) (v2 : Option V) (H' : Hp), Same H H' → g x (((σ.set i0 v0).set i1 v1).set i2 v2) H' fun σ2 H2 => tb ⟨fun σ3 H3 => (∃ (v0 : Option V) (v1 : Option V) (v2 : Option V), σ3 = (((σ.set i0 v0).set i1 v1).set i2 v2)) ∧ Same H H3, rt, nx, fun σ3 H3 => (∃ (v0 : Option V) (v1 : Option V) (v2 : Option V), σ3 = (((σ.set i0 v0).set i1 v1).set i2 v2)) ∧ Same H H3⟩ σ2 H2)
    (hd : ∀ (v0 : Option V) (v1 : Option V) (v2 : Option V) (H' : Hp), Same H H' → nx (((σ.set i0 v0).set i1 v1).set i2 v2) H') : ForL K g tb ⟨nx, rt, bk, ct⟩ σ (.ref a) H := by
  refine f_list (fun _ σ3 H3 => (∃ (v0 : Option V) (v1 : Option V) (v2 : Option V), σ3 = (((σ.set i0 v0).set i1 v1).set i2 v2)) ∧ Same H H3) (SqL.of h1) ⟨h0, Same.refl _⟩ (fun i σ' H' _ q => SqL.of (q.2 _ _ h1)) ?_ ?_
  · rintro i x σ' H' hx ⟨⟨v0, v1, v2, rfl⟩, s⟩
    exact hs x (List.mem_of_getElem? hx) v0 v1 v2 H' s
  · rintro σ' H' ⟨⟨v0, v1, v2, rfl⟩, s⟩
    exact hd v0 v1 v2 H' s
theorem f_each4 (i0 i1 i2 i3 : Nat) (h1 : H a = some (.lst xs)) (h0 : ∃ (v0 : Option V) (v1 : Option V) (v2 : Option V) (v3 : Option V), σ = ((((σ.set i0 v0).set i1 v1).set i2 v2).set i3 v3))
    (hs : ∀ x ∈ xs, ∀ (v0 : Option V) (v1 : Option V) (v2 : Option V) (v3 : Option V) (H' : Hp), Same H H' → g x ((((σ.set i0 v0).set i1 v1).set i2 v2).set i3 v3) H' fun σ2 H2 => tb ⟨fun σ3 H3 => (∃ (v0 : Option V) (v1 : Option V) (v2 : Option V) (v3 : Option V), σ3 = ((((σ.set i0 v0).set i1 v1).set i2 v2).set i3 v3)) ∧ Same H H3, rt, nx, fun σ3 H3 => (∃ (v0 : Option V) (v1 : Option V) (v2 : Option V) (v3 : Option V), σ3 = ((((σ.set i0 v0).set i1 v1).set i2 v2).set i3 v3)) ∧ Same H H3⟩ σ2 H2)
    (hd : ∀ (v0 : Option V) (v1 : Option V) (v2 : Option V) (v3 : Option V) (H' : Hp), Same H H' → nx ((((σ.set i0 v0).set i1 v1).set i2 v2).set i3 v3) H') : ForL K g tb ⟨nx, rt, bk, ct⟩ σ (.ref a) H := by
  refine f_list (fun _ σ3 H3 => (∃ (v0 : Option V) (v1 : Option V) (v2 : Option V) (v3 : Option V), σ3 = ((((σ.set i0 v0).set i1 v1).set i2 v2).set i3 v3)) ∧ Same H H3) (SqL.of h1) ⟨h0, Same.refl _⟩ (fun i σ' H' _ q => SqL.of (q.2 _ _ h1)) ?_ ?_
  · rintro i x σ' H' hx ⟨⟨v0, v1, v2, v3, rfl⟩, s⟩
    exact hs x (List.mem_of_getElem? hx) v0 v1 v2 v3 H' s
  · rintro σ' H' ⟨⟨v0, v1, v2, v3, rfl⟩, s⟩
    exact hd v0 v1 v2 v3 H' s
theorem f_each5 (i0 i1 i2 i3 i4 : Nat) (h1 : H a = some (.lst xs)) (h0 : ∃ (v0 : Option V) (v1 : Option V) (v2 : Option V) (v3 : Option V) (v4 : Option V), σ = (((((σ.set i0 v0).set i1 v1).set i2 v2).set i3 v3).set i4 v4))
    (hs : ∀ x ∈ xs, ∀ (v0 : Option V) (v1 : Option V) (v2 : Option V) (v3 : Option V) (v4 : Option V) (H' : Hp), Same H H' → g x (((((σ.set i0 v0).set i1 v1).set i2 v2).set i3 v3).set i4 v4) H' fun σ2 H2 => tb ⟨fun σ3 H3 => (∃ (v0 : Option V) (v1 : Option V) (v2 : Option V) (v3 : Option V) (v4 : Option V), σ3 = (((((σ.set i0 v0).set i1 v1).set i2 v2).set i3 v3).set i4 v4)) ∧ Same H H3, rt, nx, fun σ3 H3 => (∃ (v0 : Option V) (v1 : Option V) (v2 : Option V) (v3 : Option V) (v4 : Option V), σ3 = (((((σ.set i0 v0).set i1 v1).set i2 v2).set i3 v3).set i4 v4)) ∧ Same H H3⟩ σ2 H2)
    (hd : ∀ (v0 : Option V) (v1 : Option V) (v2 : Option V) (v3 : Option V) (v4 : Option V) (H' : Hp), Same H H' → nx (((((σ.set i0 v0).set i1 v1).set i2 v2).set i3 v3).set i4 v4) H') : ForL K g tb ⟨nx, rt, bk, ct⟩ σ (.ref a) H := by
  refine f_list (fun _ σ3 H3 => (∃ (v0 : Option V) (v1 : Option V) (v2 : Option V) (v3 : Option V) (v4 : Option V), σ3 = (((((σ.set i0 v0).set i1 v1).set i2 v2).set i3 v3).set i4 v4)) ∧ Same H H3) (SqL.of h1) ⟨h0, Same.refl _⟩ (fun i σ' H' _ q => SqL.of (q.2 _ _ h1)) ?_ ?_
  · rintro i x σ' H' hx ⟨⟨v0, v1, v2, v3, v4, rfl⟩, s⟩
    exact hs x (List.mem_of_getElem? hx) v0 v1 v2 v3 v4 H' s
  · rintro σ' H' ⟨⟨v0, v1, v2, v3, v4, rfl⟩, s⟩
    exact hd v0 v1 v2 v3 v4 H' s
theorem f_each6 (i0 i1 i2 i3 i4 i5 : Nat) (h1 : H a = some (.lst xs)) (h0 : ∃ (v0 : Option V) (v1 : Option V) (v2 : Option V) (v3 : Option V) (v4 : Option V) (v5 : Option V), σ = ((((((σ.set i0 v0).set i1 v1).set i2 v2).set i3 v3).set i4 v4).set i5 v5))
    (hs : ∀ x ∈ xs, ∀ (v0 : Option V) (v1 : Option V) (v2 : Option V) (v3 : Option V) (v4 : Option V) (v5 : Option V) (H' : Hp), Same H H' → g x ((((((σ.set i0 v0).set i1 v1).set i2 v2).set i3 v3).set i4 v4).set i5 v5) H' fun σ2 H2 => tb ⟨fun σ3 H3 => (∃ (v0 : Option V) (v1 : Option V) (v2 : Option V) (v3 : Option V) (v4 : Option V) (v5 : Option V), σ3 = ((((((σ.set i0 v0).set i1 v1).set i2 v2).set i3 v3).set i4 v4).set i5 v5)) ∧ Same H H3, rt, nx, fun σ3 H3 => (∃ (v0 : Option V) (v1 : Option V) (v2 : Option V) (v3 : Option V) (v4 : Option V) (v5 : Option V), σ3 = ((((((σ.set i0 v0).set i1 v1).set i2 v2).set i3 v3).set i4 v4).set i5 v5)) ∧ Same H H3⟩ σ2 H2)
    (hd : ∀ (v0 : Option V) (v1 : Option V) (v2 : Option V) (v3 : Option V) (v4 : Option V) (v5 : Option V) (H' : Hp), Same H H' → nx ((((((σ.set i0 v0).set i1 v1).set i2 v2).set i3 v3).set i4 v4).set i5 v5) H') : ForL K g tb ⟨nx, rt, bk, ct⟩ σ (.ref a) H := by
  refine f_list (fun _ σ3 H3 => (∃ (v0 : Option V) (v1 : Option V) (v2 : Option V) (v3 : Option V) (v4 : Option V) (v5 : Option V), σ3 = ((((((σ.set i0 v0).set i1 v1).set i2 v2).set i3 v3).set i4 v4).set i5 v5)) ∧ Same H H3) (SqL.of h1) ⟨h0, Same.refl _⟩ (fun i σ' H' _ q => SqL.of (q.2 _ _ h1)) ?_ ?_
  · rintro i x σ' H' hx ⟨⟨v0, v1, v2, v3, v4, v5, rfl⟩, s⟩
    exact hs x (List.mem_of_getElem? hx) v0 v1 v2 v3 v4 v5 H' s
  · rintro σ' H' ⟨⟨v0, v1, v2, v3, v4, v5, rfl⟩, s⟩
    exact hd v0 v1 v2 v3 v4 v5 H' s

end
section
variable {K : PySem.W.Frag} {a : Addr} {σ : L2.St} {H : Hp} {Q : VK} {ta tb : TE} {P : Prop} {dP : Decidable P}
/-- a choice of which only F is known -/
theorem ife_val {F : V → Prop} (h1 : P → ∃ v, F v ∧ ∀ Q : VK, Q v H → ta σ H Q) (h2 : ¬ P → ∃ v, F v ∧ ∀ Q : VK, Q v H → tb σ H Q) (k : ∀ v, F v → Q v H) : IfER (decide P) ta tb σ H Q := by
  by_cases h : P
  · obtain ⟨v, f, e⟩ := h1 h
    exact ife_y h (e _ (k v f))
  · obtain ⟨v, f, e⟩ := h2 h
    exact ife_n h (e _ (k v f))
theorem ix_int {ns : List Int} {z : Int} (h1 : SqL K H a (ns.map V.int)) (h0 : 0 ≤ z) (hz : z < ns.length) : ∃ c : Int, ∀ Q : VK, Q (.int c) H → rIx K (.ref a) (.int z) H Q := by
  have hlt : z.toNat < ns.length := by omega
  exact ⟨ns[z.toNat], fun Q q => ix_sq h1 (at_of (j := z.toNat) (by omega) (by simp [hlt])) q⟩
end
end L3

/-! ### a condition told by its contrary -/
namespace L3
open PySem L2 PyProof.Rows
section
variable {σ : L2.St} {H : Hp} {Q : VK} {d : TT} {ta tb te : TE} {P : Prop} {dP : Decidable P} {R : Option V → Hp → Prop}
theorem and_ny {Q : Bool → Hp → Prop} (e : P) (h : Q false H) : AndR (!decide P) d σ H Q := by rw [decide_eq_true e]; exact h
theorem and_nn {Q : Bool → Hp → Prop} (e : ¬ P) (h : d σ H Q) : AndR (!decide P) d σ H Q := by rw [decide_eq_false e]; exact h
theorem or_ny {Q : Bool → Hp → Prop} (e : P) (h : d σ H Q) : OrR (!decide P) d σ H Q := by rw [decide_eq_true e]; exact h
theorem or_nn {Q : Bool → Hp → Prop} (e : ¬ P) (h : Q true H) : OrR (!decide P) d σ H Q := by rw [decide_eq_false e]; exact h
theorem not_ny {Q : Bool → Hp → Prop} (e : P) (h : Q true H) : NotR (!decide P) H Q := by rw [decide_eq_true e]; exact h
theorem not_nn {Q : Bool → Hp → Prop} (e : ¬ P) (h : Q false H) : NotR (!decide P) H Q := by rw [decide_eq_false e]; exact h
theorem andv_ny (e : P) (h : Q (.bl false) H) : AndVR (.bl (!decide P)) tb σ H Q := by rw [decide_eq_true e]; exact andv_F h
theorem andv_nn (e : ¬ P) (h : tb σ H Q) : AndVR (.bl (!decide P)) tb σ H Q := by rw [decide_eq_false e]; exact andv_T h
theorem orv_ny (e : P) (h : tb σ H Q) : OrVR (.bl (!decide P)) tb σ H Q := by rw [decide_eq_true e]; exact orv_F h
theorem orv_nn (e : ¬ P) (h : Q (.bl true) H) : OrVR (.bl (!decide P)) tb σ H Q := by rw [decide_eq_false e]; exact orv_T h
theorem ife_ny (e : P) (h : tb σ H Q) : IfER (!decide P) ta tb σ H Q := by rw [decide_eq_true e]; exact h
theorem ife_nn (e : ¬ P) (h : ta σ H Q) : IfER (!decide P) ta tb σ H Q := by rw [decide_eq_false e]; exact h
theorem lce_ny (e : P) (h : R none H) : LcE R te (!decide P) σ H := by rw [decide_eq_true e]; exact h
theorem lce_nn (e : ¬ P) (h : te σ H fun y H4 => R (some y) H4) : LcE R te (!decide P) σ H := by rw [decide_eq_false e]; exact h
end
end L3

set_option Elab.async false
set_option linter.all false
set_option maxRecDepth 100000
set_option maxHeartbeats 2000000
/-! Operators that an own class defines: their rules over the layer. -/
namespace L3
open PySem PySem.Calls PyProof.Rows PySem.W
section
variable {prog : Program} {w : World} {M : Model} {A : Around} {E : Value → Shared → Prop} {s : Shared} {K : PySem.W.Frag} {x y C f : Addr} {h₀ : Heap} {ox oy : Obj} {od od' : Option Obj} {v : Value} {m : PySem.Str → Option Value} {L : Addr}
theorem own_has {Q : Bool → Shared → Prop} (X : K.In s.heap) (I : InstAt s.heap x ox C od) (hs : findIn K (.ref C) "__contains__" = some (some (.ref f))) (hf : isFn K (.ref f) = true)
    (h : wpAny M A (call (.ref f) [.ref x, v]) (fun r s' => ∃ b, r = .bool b ∧ Q b s') E s) : wpAny M A (contains (.ref x) v) Q E s := by
  have one := h
  obtain ⟨hh, g, d, tt, os⟩ := s
  have l1 : Looks M hh (typeOf (.ref x)) (.ref C) := I.type
  have l2 : Looks M hh (typeLookup (.ref C) "__contains__") (some (.ref f)) := looks_findIn X hs
  have l3 : Looks M hh (bindSpecial (.ref f) (.ref x)) (.ref f, [.ref x]) := bind_fn X _ (beq_iff_eq.mp hf)
  unfold contains
  refine wpAny_holding ?_
  have e0 : stdlibNamesSay? (.ref x) v = none := by cases v <;> rfl
  rw [e0]
  unfold callSpecialUnlessNone? specialOf
  repeat ((fail_if_success (with_reducible show wpAny _ _ (call _ _) _ _ _)); lk)
  refine wpAny_mono one (fun r s' z => ?_) fun _ _ e => e
  obtain ⟨b, e, q⟩ := z
  subst e
  lk
  lk
  exact wpAny_truthy_bool q
theorem own_in {Q : Value → Shared → Prop} (X : K.In s.heap) (I : InstAt s.heap x ox C od) (hs : findIn K (.ref C) "__contains__" = some (some (.ref f))) (hf : isFn K (.ref f) = true)
    (h : wpAny M A (call (.ref f) [.ref x, v]) (fun r s' => ∃ b, r = .bool b ∧ Q (.bool b) s') E s) : wpAny M A (compareOp .In v (.ref x)) Q E s := by
  show wpAny M A (contains (.ref x) v >>= fun b => pure (.bool b)) Q E _
  exact wpAny_bind (own_has X I hs hf (wpAny_mono h (fun r s' ⟨b, e, q⟩ => ⟨b, e, wpAny_pure q⟩) fun _ _ e => e))
theorem own_nin {Q : Value → Shared → Prop} (X : K.In s.heap) (I : InstAt s.heap x ox C od) (hs : findIn K (.ref C) "__contains__" = some (some (.ref f))) (hf : isFn K (.ref f) = true)
    (h : wpAny M A (call (.ref f) [.ref x, v]) (fun r s' => ∃ b, r = .bool b ∧ Q (.bool (!b)) s') E s) : wpAny M A (compareOp .NotIn v (.ref x)) Q E s := by
  show wpAny M A (contains (.ref x) v >>= fun b => pure (.bool (!b))) Q E _
  exact wpAny_bind (own_has X I hs hf (wpAny_mono h (fun r s' ⟨b, e, q⟩ => ⟨b, e, wpAny_pure q⟩) fun _ _ e => e))
/-- two instances of one class -/
theorem own_bin {op : Operator} {Q : Value → Shared → Prop} (X : K.In s.heap) (I : InstAt s.heap x ox C od) (I' : InstAt s.heap y oy C od') (hc : selfFirst K C = true)
    (hs : findIn K (.ref C) (PySem.dunder op.info.2) = some (some (.ref f))) (hf : isFn K (.ref f) = true)
    (h : wpAny (model prog w) A (call (.ref f) [.ref x, .ref y]) (PySem.W.CmpBack Q) E s) : wpAny (model prog w) A (binaryOp op (.ref x) (.ref y)) Q E s := by
  obtain ⟨cd, rest, hcd, hm⟩ := ksp_first hc
  rcases hi : op.info with ⟨sym, nm'⟩
  rw [hi] at hs
  dsimp only at hs
  have one := ksp_try X I hs hf h
  obtain ⟨hh, g, d, tt, os⟩ := s
  have l1 : Looks (model prog w) hh (typeOf (.ref x)) (.ref C) := I.type
  have l2 : Looks (model prog w) hh (typeOf (.ref y)) (.ref C) := I'.type
  have l3 : Looks (model prog w) hh (fillsNumberSlot (.ref C) nm') true := fills_K X hcd hm hs
  simp only [binaryOp, hi]
  refine wpAny_holding (wpAny_bind ?_)
  unfold binaryOp1
  refine wpAny_bind (l1.at (wpAny_bind (l2.at (wpAny_bind (l3.at ?_)))))
  simp only [beq_self_eq_true, if_true]
  ksp_lk
  refine wpAny_mono one (fun r s' hr' => ?_) fun _ _ e => e
  obtain ⟨v, rfl, hq⟩ := hr'
  ksp_lk
  exact hq
end
end L3

namespace L3
open PySem L2 PyProof.Rows
section
variable {X : Cx} {CX : CXT} {k : Nat} {C f : Addr} {fd : FuncData} {ps : List PySem.Str} {sp : Sp} {E : XK} {K : PySem.W.Frag}
/-- an instance, as the machine has it -/
theorem inst_of {pins : List (Addr × Obj)} {σ : L2.St} {H : Hp} {s : Shared} {a dx : Addr} {fs : List (PySem.Str × V)} (I : Inv X pins σ H s) (ea : H a = some (.ins C dx fs)) : ∃ ox od, PySem.W.InstAt s.heap a ox C (some od) := by
  obtain ⟨mA, O, _⟩ := ins_get I.hok ea
  obtain ⟨od, J, _⟩ := O.look
  exact ⟨_, od, J⟩
/-- x op y by the def at f of x's class; y an instance of the same class -/
def rOwn2 (C : Addr) (sp : Sp) (E : XK) : R2 := fun x y H Q => ∃ a dx fs b dy gs, x = .ref a ∧ y = .ref b ∧ H a = some (.ins C dx fs) ∧ H b = some (.ins C dy gs) ∧ sp [.ref a, .ref b] H Q E
theorem op_own2 {op : Operator} (hc : PySem.W.selfFirst X.K C = true) (hs : PySem.W.findIn X.K (.ref C) (PySem.dunder op.info.2) = some (some (.ref f))) (hf : PySem.W.isFn X.K (.ref f) = true)
    (F : FnOk X.prog X.w X.K X.mg X.base CX k f fd ps sp) (hr : Room k X.A) (hb : Binds X.K fd ps []) (hx : Passes CX X E) : OpR X (binaryOp op) (rOwn2 C sp E) := by
  intro pins s σ H x y v u Q I rx ry h
  obtain ⟨a, dx, fs, b, dy, gs, rfl, rfl, ea, eb, q⟩ := h
  cases (show v = Value.ref a from rx)
  cases (show u = Value.ref b from ry)
  obtain ⟨ox, od, J⟩ := inst_of I ea
  obtain ⟨oy, od', J'⟩ := inst_of I eb
  refine own_bin I.kIn J J' hc hs hf ?_
  refine wpAny_mono (run_fn (us := [.ref a, .ref b]) (vs := [.ref a, .ref b]) F hr hb .nil hx I (.cons rfl (.cons rfl .nil)) q) (fun r s' z => ?_) fun _ _ e => e
  obtain ⟨z', H', I', rz, qz⟩ := z
  exact SlX.cmpback rz ⟨z', H', I', rz, qz⟩
/-- x == y of two instances of one class -/
theorem op_ownEq (hs : PySem.W.findIn X.K (.ref C) "__eq__" = some (some (.ref f))) (hf : PySem.W.isFn X.K (.ref f) = true)
    (F : FnOk X.prog X.w X.K X.mg X.base CX k f fd ps sp) (hr : Room k X.A) (hb : Binds X.K fd ps []) (hx : Passes CX X E) : OpR X (compareOp .Eq) (rOwn2 C sp E) := by
  intro pins s σ H x y v u Q I rx ry h
  obtain ⟨a, dx, fs, b, dy, gs, rfl, rfl, ea, eb, q⟩ := h
  cases (show v = Value.ref a from rx)
  cases (show u = Value.ref b from ry)
  obtain ⟨ox, od, J⟩ := inst_of I ea
  obtain ⟨oy, od', J'⟩ := inst_of I eb
  obtain ⟨m, hF⟩ := I.fr
  refine PySem.W.cmp_K (op := .Eq) (tb := .ref C) hr.units0 hF I.ok.mod.kin J J'.type (by simp [PySem.W.notFirst]) hs hf ?_
  refine wpAny_mono (run_fn (us := [.ref a, .ref b]) (vs := [.ref a, .ref b]) F hr hb .nil hx I (.cons rfl (.cons rfl .nil)) q) (fun r s' z => ?_) fun _ _ e => e
  obtain ⟨z', H', I', rz, qz⟩ := z
  exact SlX.cmpback rz ⟨z', H', I', rz, qz⟩
/-- v in x, x an instance -/
def rOwnIn (C : Addr) (neg : Bool) (sp : Sp) (E : XK) : R2 := fun x y H Q => ∃ b dy gs, y = .ref b ∧ H b = some (.ins C dy gs) ∧ sp [.ref b, x] H (fun z H' => ∃ k, z = .bl k ∧ Q (.bl (if neg then !k else k)) H') E
theorem op_ownIn (hs : PySem.W.findIn X.K (.ref C) "__contains__" = some (some (.ref f))) (hf : PySem.W.isFn X.K (.ref f) = true)
    (F : FnOk X.prog X.w X.K X.mg X.base CX k f fd ps sp) (hr : Room k X.A) (hb : Binds X.K fd ps []) (hx : Passes CX X E) : OpR X (compareOp .In) (rOwnIn C false sp E) := by
  intro pins s σ H x y v u Q I rx ry h
  obtain ⟨b, dy, gs, rfl, eb, q⟩ := h
  cases (show u = Value.ref b from ry)
  obtain ⟨oy, od', J'⟩ := inst_of I eb
  refine own_in I.kIn J' hs hf ?_
  refine wpAny_mono (run_fn (us := [.ref b, v]) (vs := [.ref b, x]) F hr hb .nil hx I (.cons rfl (.cons rx .nil)) q) (fun r s' z => ?_) fun _ _ e => e
  obtain ⟨z', H', I', rz, k, e, qz⟩ := z
  subst e
  cases rz
  exact ⟨k, rfl, .bl k, H', I', rfl, qz⟩
theorem op_ownNin (hs : PySem.W.findIn X.K (.ref C) "__contains__" = some (some (.ref f))) (hf : PySem.W.isFn X.K (.ref f) = true)
    (F : FnOk X.prog X.w X.K X.mg X.base CX k f fd ps sp) (hr : Room k X.A) (hb : Binds X.K fd ps []) (hx : Passes CX X E) : OpR X (compareOp .NotIn) (rOwnIn C true sp E) := by
  intro pins s σ H x y v u Q I rx ry h
  obtain ⟨b, dy, gs, rfl, eb, q⟩ := h
  cases (show u = Value.ref b from ry)
  obtain ⟨oy, od', J'⟩ := inst_of I eb
  refine own_nin I.kIn J' hs hf ?_
  refine wpAny_mono (run_fn (us := [.ref b, v]) (vs := [.ref b, x]) F hr hb .nil hx I (.cons rfl (.cons rx .nil)) q) (fun r s' z => ?_) fun _ _ e => e
  obtain ⟨z', H', I', rz, k, e, qz⟩ := z
  subst e
  cases rz
  exact ⟨k, rfl, .bl (!k), H', I', rfl, qz⟩
/-- ~x -/
def rOwn1 (C : Addr) (sp : Sp) (E : XK) : V → Hp → VK → Prop := fun x H Q => ∃ a dx fs, x = .ref a ∧ H a = some (.ins C dx fs) ∧ sp [.ref a] H Q E
theorem un_ownInv (hs : PySem.W.findIn X.K (.ref C) "__invert__" = some (some (.ref f))) (hf : PySem.W.isFn X.K (.ref f) = true)
    (F : FnOk X.prog X.w X.K X.mg X.base CX k f fd ps sp) (hr : Room k X.A) (hb : Binds X.K fd ps []) (hx : Passes CX X E) : UnR X (unaryOp .Invert) (rOwn1 C sp E) := by
  intro pins s σ H x v Q I rx h
  obtain ⟨a, dx, fs, rfl, ea, q⟩ := h
  cases (show v = Value.ref a from rx)
  obtain ⟨ox, od, J⟩ := inst_of I ea
  obtain ⟨m, hF⟩ := I.fr
  exact PySem.W.ksp_inv hF I.ok.mod.kin J hs hf (run_fn (us := [.ref a]) (vs := [.ref a]) F hr hb .nil hx I (.cons rfl .nil) q)
end
section
variable {H : Hp} {Q : VK} {C a b dx dy : Addr} {fs gs : List (PySem.Str × V)} {sp : Sp} {E : XK} {x : V} {neg : Bool}
theorem w_own2 (h1 : H a = some (.ins C dx fs)) (h2 : H b = some (.ins C dy gs)) (h : sp [.ref a, .ref b] H Q E) : rOwn2 C sp E (.ref a) (.ref b) H Q := ⟨a, dx, fs, b, dy, gs, rfl, rfl, h1, h2, h⟩
theorem w_own1 (h1 : H a = some (.ins C dx fs)) (h : sp [.ref a] H Q E) : rOwn1 C sp E (.ref a) H Q := ⟨a, dx, fs, rfl, h1, h⟩
def OwnB (neg : Bool) (Q : VK) : VK := fun z H' => ∃ k, z = .bl k ∧ Q (.bl (if neg then !k else k)) H'
theorem w_ownin (h1 : H b = some (.ins C dy gs)) (h : sp [.ref b, x] H (OwnB neg Q) E) : rOwnIn C neg sp E x (.ref b) H Q := ⟨b, dy, gs, rfl, h1, h⟩
theorem w_b0 {k : Bool} (h : Q (.bl k) H) : OwnB false Q (.bl k) H := ⟨k, rfl, h⟩
theorem w_b1 {k : Bool} (h : Q (.bl (!k)) H) : OwnB true Q (.bl k) H := ⟨k, rfl, h⟩
end
end L3

/-! != by object's __ne__ over an own __eq__ -/
namespace L3
open PySem PySem.Calls PyProof.Rows PySem.W
section
variable {prog : Program} {w : World} {A : Around} {E : Value → Shared → Prop} {s : Shared} {K : PySem.W.Frag} {x y C f : Addr} {ox oy : Obj} {od od' : Option Obj}
theorem chk_ne {M : Model} {y : Value} {Q : Unit → Shared → Prop} (X : K.In s.heap) (I : InstAt s.heap x ox C od) (hsub : subIn K (.ref C) (.type "object") = some true) (hq : Q () s) :
    wpAny M A (checkBuiltinCall "object.__ne__" ⟨[.ref x, y], []⟩) Q E s := by
  obtain ⟨hh, g, d, tt, os⟩ := s
  have l1 : Looks M hh (typeOf (.ref x)) (.ref C) := I.type
  have l2 : Looks M hh (isSubtype (.ref C) (.type "object")) true := looks_subIn X hsub
  simp only [checkBuiltinCall, PySem.F.cmpKind_ne, PySem.F.cmpSplit_ne]
  refine wpAny_bind ?_
  · unfold isInstance
    repeat lk
    exact hq
theorem ob_ne {Q : Fin → Shared → Prop} (X : K.In s.heap) (I : InstAt s.heap x ox C od) (hs : findIn K (.ref C) "__eq__" = some (some (.ref f))) (hf : isFn K (.ref f) = true) (hu : A.units < cLine)
    (hcall : wpAny (model prog w) A (call (.ref f) [.ref x, .ref y]) (fun v s' => ∃ b, v = .bool b ∧ Q (.done (.ret (.bool (!b)))) s') E s) :
    wpAny (model prog w) A (Builtin.«object.__ne__» ⟨[.ref x, .ref y], []⟩) Q E s := by
  unfold Builtin.«object.__ne__»
  repeat (first
    | with_reducible refine wpAny_cRoomFor hu ?_
    | (refine wpAny_bind (m := callSpecialIfBound? (.ref x) (PySem.Str.ofString "__eq__") [.ref y])
        (ifBound_K X I hs hf (wpAny_mono hcall (fun r s' hr => by
          obtain ⟨b, rfl, hq⟩ := hr
          repeat (first | exact hq | exact wpAny_pure hq | exact wpAny_truthy_bool hq | (refine wpAny_bind (m := truthy (.bool _)) (wpAny_truthy_bool ?_)) | wp_step)) fun _ _ e => e)))
    | wp_step)
end
end L3

namespace L3
open PySem PySem.Calls PyProof.Rows PySem.W
section
variable {prog : Program} {w : World} {A : Around} {E : Value → Shared → Prop} {s : Shared} {K : PySem.W.Frag} {x y C f : Addr} {ox oy : Obj} {od od' : Option Obj}
theorem try_ne {Q : Option Value → Shared → Prop} (X : K.In s.heap) (I : InstAt s.heap x ox C od) (hs : findIn K (.ref C) "__eq__" = some (some (.ref f))) (hf : isFn K (.ref f) = true) (hn : findIn K (.ref C) "__ne__" = some (some (.builtin "object.__ne__")))
    (hsub : subIn K (.ref C) (.type "object") = some true) (hu : A.units + 1 < cLine)
    (hcall : wpAny (model prog w) A.in1 (call (.ref f) [.ref x, .ref y]) (fun v s' => ∃ b, v = .bool b ∧ Q (some (.bool (!b))) s') E s) :
    wpAny (model prog w) A (tryCompare (.ref x) "__ne__" (.ref y)) Q E s := by
  simp only [tryCompare, callSpecialIfBound?, bindSpecialIfBound?]
  have bnd : bindSpecial (.builtin "object.__ne__") (.ref x) = pure (.builtin "object.__ne__", [.ref x]) := PySem.F.cmp_object.ne.bind (.ref x)
  have body : wpAny (model prog w) A (call (.builtin "object.__ne__") [.ref x, .ref y]) (fun v s' => ∃ b, v = .bool (!b) ∧ Q (some (.bool (!b))) s') E s :=
    wpAny_call (codeAny_call_builtin PySem.F.cmp_object.ne.plain PySem.F.cmpEntry_ne (chk_ne X I hsub (ob_ne (A := A.in1) X I hs hf hu (wpAny_mono hcall (fun v s' hv => by
      obtain ⟨b, rfl, hq⟩ := hv
      exact ⟨b, rfl, b, rfl, hq⟩) fun _ _ e => e))))
  refine wpAny_bind (wpAny_holding (wpAny_bind (wpAny_bind (wpAny_bind (I.type.here ((looks_findIn X hn).here ?_))))))
  simp only [bnd]
  refine wpAny_bind (wpAny_askSetting (wpAny_ite ?_))
  have fin : wpAny (model prog w) A (call (.builtin "object.__ne__") ([.ref x] ++ [.ref y]) >>= fun v => pure (some v)) (fun a s' => wpAny (model prog w) A (match a with | some .notImplemented | none => pure none | some v => pure (some v)) Q E s') E s :=
    wpAny_bind (wpAny_mono body (fun v s' h' => by
      obtain ⟨b, rfl, hq⟩ := h'
      exact wpAny_pure (wpAny_pure hq)) fun _ _ h' => h')
  split
  · exact wpAny_bind (wpAny_pure (wpAny_pure (by exact fin)))
  · exact wpAny_tryCatch (wpAny_bind (wpAny_pure (wpAny_pure (by exact fin))))
theorem own_ne {Q : Value → Shared → Prop} (X : K.In s.heap) (I : InstAt s.heap x ox C od) (I' : InstAt s.heap y oy C od') (hs : findIn K (.ref C) "__eq__" = some (some (.ref f))) (hf : isFn K (.ref f) = true)
    (hn : findIn K (.ref C) "__ne__" = some (some (.builtin "object.__ne__"))) (hsub : subIn K (.ref C) (.type "object") = some true) (hu : A.units + 1 < cLine)
    (hcall : wpAny (model prog w) A.in1 (call (.ref f) [.ref x, .ref y]) (fun v s' => ∃ b, v = .bool b ∧ Q (.bool (!b)) s') E s) :
    wpAny (model prog w) A (compareOp .NotEq (.ref x) (.ref y)) Q E s := by
  show wpAny (model prog w) A (richCompare .NotEq (.ref x) (.ref y)) Q E s
  unfold richCompare
  simp only [oneThing_ref]
  refine wpAny_holding ?_
  refine wpAny_bind (wpAny_cRoomFor (Nat.lt_of_succ_lt hu) ?_)
  rw [cmpInfo_NotEq]
  dsimp only
  refine wpAny_bind (I.type.here (wpAny_bind (I'.type.here ?_)))
  rw [show (Value.ref C != Value.ref C) = false from by simp]
  simp only [Bool.false_eq_true, if_false]
  refine wpAny_bind (wpAny_pure ?_)
  simp only [Bool.false_eq_true, if_false]
  refine wpAny_bind (try_ne X I hs hf hn hsub hu (wpAny_mono hcall (fun v s' hv => ?_) fun _ _ e => e))
  obtain ⟨b, rfl, hq⟩ := hv
  first | exact ⟨b, rfl, wpAny_pure hq⟩ | exact ⟨b, rfl, wpAny_pure (wpAny_pure hq)⟩
end
end L3
namespace L3
open PySem L2 PyProof.Rows
section
variable {X : Cx} {CX : CXT} {k : Nat} {C f : Addr} {fd : FuncData} {ps : List PySem.Str} {sp : Sp} {E : XK}
/-- x != y of two instances of one class with an own __eq__ -/
def rOwnNe (C : Addr) (sp : Sp) (E : XK) : R2 := fun x y H Q => ∃ a dx fs b dy gs, x = .ref a ∧ y = .ref b ∧ H a = some (.ins C dx fs) ∧ H b = some (.ins C dy gs) ∧ sp [.ref a, .ref b] H (OwnB true Q) E
theorem op_ownNe (hs : PySem.W.findIn X.K (.ref C) "__eq__" = some (some (.ref f))) (hf : PySem.W.isFn X.K (.ref f) = true) (hn : PySem.W.findIn X.K (.ref C) "__ne__" = some (some (.builtin "object.__ne__")))
    (hsub : PySem.W.subIn X.K (.ref C) (.type "object") = some true)
    (F : FnOk X.prog X.w X.K X.mg X.base CX k f fd ps sp) (hr : Room (k + 1) X.A) (hb : Binds X.K fd ps []) (hx : Passes CX X.nox E) : OpR X (compareOp .NotEq) (rOwnNe C sp E) := by
  intro pins s σ H x y v u Q I rx ry h
  obtain ⟨a, dx, fs, b, dy, gs, rfl, rfl, ea, eb, q⟩ := h
  cases (show v = Value.ref a from rx)
  cases (show u = Value.ref b from ry)
  obtain ⟨ox, od, J⟩ := inst_of I ea
  obtain ⟨oy, od', J'⟩ := inst_of I eb
  have hu : X.A.units + 1 < cLine := hu_of hr
  refine own_ne I.kIn J J' hs hf hn hsub hu ?_
  have r2 : Vals [V.ref a, V.ref b] [Value.ref a, Value.ref b] := .cons rfl (.cons rfl .nil)
  have hl : ([Value.ref a, Value.ref b] ++ ([] : List Value)).length = ps.length := by rw [← F.len _ _ _ _ q]; rfl
  refine wpAny_call (codeAny_mono (F.run X.A.in1 X.stack s H ⟨[.ref a, .ref b], []⟩ [.ref a, .ref b] [.ref a, .ref b] _ E hr.in1 I.env0.in1 (by
    have := hb s [.ref a, .ref b] I.kIn hl
    simpa using this) r2 q) fun r s' hq => ?_)
  cases r with
  | error e => exact False.elim (hx pins σ H s e s' (I.wish _) hq)
  | ok fl =>
    cases fl with
    | ret w' =>
      obtain ⟨z, H', I', rz, kb, ez, qz⟩ := I.after hq
      subst ez
      cases rz
      exact ⟨kb, rfl, .bl (!kb), H', I', rfl, qz⟩
    | next => exact False.elim hq
    | brk => exact False.elim hq
    | cont => exact False.elim hq
end
section
variable {H : Hp} {Q : VK} {C a b dx dy : Addr} {fs gs : List (PySem.Str × V)} {sp : Sp} {E : XK}
theorem w_ownne (h1 : H a = some (.ins C dx fs)) (h2 : H b = some (.ins C dy gs)) (h : sp [.ref a, .ref b] H (OwnB true Q) E) : rOwnNe C sp E (.ref a) (.ref b) H Q := ⟨a, dx, fs, b, dy, gs, rfl, rfl, h1, h2, h⟩
end
end L3

/-! comprehensions whose items are new lists -/
namespace L3
open PySem L2 PyProof.Rows
section
variable {H : Hp} {Q : VK} {g : TG} {tt : TT} {te : TE} {vs : List Nat} {σ : L2.St}
theorem Fr.back {H H1 : Hp} {q : Addr} (s : Same H H1) (h : Fr H1 q) : Fr H q := ⟨s.free h.out⟩
theorem lcr1_rows {j : Int} (f : Nat → List V) (b1 : -(2 ^ 62) ≤ j) (hz : j ≤ 100000)
    (hs : ∀ i : Nat, (i : Int) < j → ∀ H1, Same H H1 → ∀ Z : Option V → Hp → Prop, (∀ q H2, Fr H1 q → Same H1 H2 → H2 q = some (.lst (f i)) → Z (some (.ref q)) H2) → LcT g tt te vs σ (.int i) H1 Z)
    (k : ∀ D (qs : List Addr) H', Fr H D → Same H H' → qs.length = j.toNat → qs.Nodup → D ∉ qs → (∀ q ∈ qs, Fr H q) → (∀ (i : Nat) q, qs[i]? = some q → H' q = some (.lst (f i))) → H' D = some (.lst (qs.map V.ref)) → Q (.ref D) H') : LcR1 g tt te vs σ [.int j] H Q := by
  refine ⟨j, rfl, b1, by omega, fun D hD => lc_range (fun i H' => i ≤ j.toNat ∧ Same H H' ∧ ∃ qs : List Addr, qs.length = i ∧ qs.Nodup ∧ D ∉ qs ∧ (∀ q ∈ qs, Fr H q) ∧ (∀ (k : Nat) q, qs[k]? = some q → H' q = some (.lst (f k))) ∧ H' D = some (.lst (qs.map V.ref)))
    ⟨Nat.zero_le _, same_upd hD, [], rfl, List.nodup_nil, List.not_mem_nil, fun q h => absurd h List.not_mem_nil, fun k q h => by simp at h, upd_same⟩ ?_ ?_⟩
  · rintro i H1 hlt ⟨hi, sH, qs, hl, hn, hDq, hf, hq, eD⟩
    rw [Int.zero_add]
    refine hs i (by omega) H1 sH (fun o H4 => match o with
      | some y => ∃ acc, H4 D = some (.lst acc) ∧ acc.length < sizeLine ∧ (i + 1 ≤ j.toNat ∧ Same H (upd H4 D (.lst (acc ++ [y]))) ∧ ∃ qs : List Addr, qs.length = i + 1 ∧ qs.Nodup ∧ D ∉ qs ∧ (∀ q ∈ qs, Fr H q) ∧ (∀ (k : Nat) q, qs[k]? = some q → (upd H4 D (.lst (acc ++ [y]))) q = some (.lst (f k))) ∧ (upd H4 D (.lst (acc ++ [y]))) D = some (.lst (qs.map V.ref)))
      | none => i + 1 ≤ j.toNat ∧ Same H H4 ∧ ∃ qs : List Addr, qs.length = i + 1 ∧ qs.Nodup ∧ D ∉ qs ∧ (∀ q ∈ qs, Fr H q) ∧ (∀ (k : Nat) q, qs[k]? = some q → H4 q = some (.lst (f k))) ∧ H4 D = some (.lst (qs.map V.ref))) fun q H2 fq s2 hq2 => ?_
    have qD : q ≠ D := ne_new fq eD
    have qn : q ∉ qs := fun m => by
      obtain ⟨n, hn2, e⟩ := List.getElem_of_mem m
      have e2 : qs[n]? = some q := by rw [List.getElem?_eq_getElem hn2, e]
      exact ne_new fq (hq n q e2) rfl
    refine ⟨qs.map V.ref, s2 _ _ eD, ?_, hlt, fun b o e => ?_, qs ++ [q], by rw [List.length_append, hl]; rfl, ?_, ?_, ?_, ?_, by rw [upd_same, List.map_append]; rfl⟩
    · rw [List.length_map, hl]
      exact Nat.lt_of_le_of_lt (by omega : _ ≤ 100000) (by decide)
    · rw [upd_ne (ne_of_none e hD)]
      exact s2 _ _ (sH _ _ e)
    · rw [List.nodup_append]
      exact ⟨hn, by simp, fun a ha b hb => by simp at hb; subst hb; intro e; subst e; exact qn ha⟩
    · intro m
      rcases List.mem_append.mp m with m | m
      · exact hDq m
      · simp at m; exact qD m.symm
    · intro q' m
      rcases List.mem_append.mp m with m | m
      · exact hf q' m
      · simp at m; subst m; exact fq.back sH
    · intro n q' e
      have ne : q' ≠ D := fun z => by
        subst z
        rcases List.mem_append.mp (List.mem_of_getElem? e) with m | m
        · exact hDq m
        · simp at m; exact qD m.symm
      rw [upd_ne ne]
      by_cases hlt2 : n < qs.length
      · rw [List.getElem?_append_left hlt2] at e
        exact s2 _ _ (hq n q' e)
      · rw [List.getElem?_append_right (by omega)] at e
        have hn0 : n - qs.length = 0 := by
          have := (List.getElem?_eq_some_iff.mp e).1
          simp at this
          omega
        rw [hn0] at e
        simp at e
        subst e
        have : n = i := by omega
        subst this
        exact hq2
  · rintro H1 ⟨_, sH, qs, hl, hn, hDq, hf, hq, eD⟩
    exact k D qs H1 ⟨hD⟩ sH hl hn hDq hf hq eD
end
/-! isinstance of an own instance, of its own class -/
section
variable {K : PySem.W.Frag} {H : Hp} {Q : VK} {a C dx : Addr} {fs : List (PySem.Str × V)}
structure IsiC (K : PySem.W.Frag) (C : Addr) : Prop where
  ca : PySem.W.findIn K (.ref C) "__class__" = some (some (.builtin "object.__class__"))
  cn : PySem.W.specialIn K (.builtin "object.__class__") "__get__" = some (some (.builtin "getset_descriptor.__get__"))
  ct : PySem.W.takesIn K (.builtin "object.__class__") = some true
  cm : PySem.W.mroIn K C (.type "object") = some true
theorem isi_own (h1 : H a = some (.ins C dx fs)) (c : Cls K C) (i : IsiC K C) (h : Q (.bl true) H) : rIsi K [.ref a, .ref C] H Q :=
  ⟨_, _, _, _, true, rfl, .own C, .base (.ins h1 c i.ca i.cn i.ct i.cm), by unfold PySem.W.kitOne; rw [if_pos (by exact beq_self_eq_true _)], h⟩
end
end L3

/-! methods of lists; heaps that are as they were but for some addresses -/
namespace L3
open PySem L2 PyProof.Rows
section
variable {K : PySem.W.Frag} {H : Hp} {Q : VK} {a : Addr} {xs ys : List V} {to : TE} {t : TA} {σ : L2.St} {x y : V} {r : V → List V → Hp → VK → Prop} {T : String}
def BmR (K : PySem.W.Frag) (T : String) (r : V → List V → Hp → VK → Prop) (t : TA) (σ : L2.St) (x : V) (H : Hp) (Q : VK) : Prop := tyV K T x H ∧ t σ H fun xs H2 => r x xs H2 Q
def Bm0R (K : PySem.W.Frag) (T : String) (r : V → List V → Hp → VK → Prop) (x : V) (H : Hp) (Q : VK) : Prop := tyV K T x H ∧ r x [] H Q
theorem g_bm (h : to σ H fun x H1 => BmR K T r t σ x H1 Q) : tBM K T r to t σ H Q := h
theorem g_bm0 (h : to σ H fun x H1 => Bm0R K T r x H1 Q) : tBM0 K T r to σ H Q := h
theorem bm_l (h1 : H a = some (.lst xs)) (h : t σ H fun ys H2 => r (.ref a) ys H2 Q) : BmR K "list" r t σ (.ref a) H Q := ⟨Or.inl ⟨rfl, _, SqL.of h1⟩, h⟩
theorem bm0_l (h1 : H a = some (.lst xs)) (h : r (.ref a) [] H Q) : Bm0R K "list" r (.ref a) H Q := ⟨Or.inl ⟨rfl, _, SqL.of h1⟩, h⟩
theorem ap_append (h1 : H a = some (.lst xs)) (hz : xs.length < 100000) (h : ∀ H', SB a H H' → H' a = some (.lst (xs ++ [y])) → Q .non H') : rAppend (.ref a) [y] H Q :=
  ⟨a, xs, y, rfl, rfl, h1, Nat.lt_of_lt_of_le hz (by decide), h _ sb_upd upd_same⟩
end
/-- all but what stands in l is as it was -/
def SBs (l : List Addr) (H H' : Hp) : Prop := ∀ a o, a ∉ l → H a = some o → H' a = some o
theorem SBs.same {l : List Addr} {H H1 H2 : Hp} (a : Same H H1) (h : ∀ q ∈ l, Fr H q) (b : SBs l H1 H2) : Same H H2 := fun c o q => b c o (fun m => by have := (h c m).out; rw [q] at this; cases this) (a c o q)
theorem SBs.sb {l : List Addr} {H H1 H2 : Hp} {p : Addr} (a : SBs l H H1) (hp : p ∈ l) (b : SB p H1 H2) : SBs l H H2 := fun c o n q => b c o (fun e => n (e ▸ hp)) (a c o n q)
theorem SBs.tr {l : List Addr} {H H1 H2 : Hp} (a : SBs l H H1) (b : Same H1 H2) : SBs l H H2 := fun c o n q => b c o (a c o n q)
end L3

set_option Elab.async false
set_option linter.all false
set_option maxRecDepth 100000
set_option maxHeartbeats 2000000
/-! several clauses «except C as e»; isinstance and fields of an own error that has a dict; calls that may let an error out, inside a try -/
namespace L3
open PySem PySem.Spec L2 PyProof.Rows
def endA (i : Nat) (D : Ends) : Ends := { nx := fun σ' H' => D.nx (σ'.set i none) H', rt := D.rt, bk := fun σ' H' => D.bk (σ'.set i none) H', ct := fun σ' H' => D.ct (σ'.set i none) H' }
def wManyA (K : PySem.W.Frag) (Wout : WX) (i : Nat) (D : Ends) : List (Value × (Addr → Value → Option Addr → TS)) → WX
  | [] => Wout
  | (c, ts) :: r => fun cls d σ H => ∃ b, PySem.W.exmOne K cls c = some b ∧ (b = true → ∀ a, H a = none → ts a cls d (endA i D) (σ.set i (some (.ref a))) H) ∧ (b = false → wManyA K Wout i D r cls d σ H)
inductive HdsA (X : Cx) (n : Str) : List ExceptHandler → List (Value × (Addr → Value → Option Addr → TS)) → Prop
  | nil : HdsA X n [] []
  | cons {x : Str} {c : Value} {ts : Addr → Value → Option Addr → TS} {b₀ : Stmt} {suite : List Stmt} {np pos' : Pos} {hds : List ExceptHandler} {l : List (Value × (Addr → Value → Option Addr → TS))} (hc : Names X x c)
      (hsu : ∀ (a : Addr) (oe : Obj) (cls : Value) (d : Option Addr) (pn : List (Addr × Obj)), Zc cls d oe → (∃ vs, oe.data = .fields vs) → PSs (X.suite a ((a, oe) :: pn)) (b₀ :: suite) (ts a cls d)) (r : HdsA X n hds l) :
      HdsA X n (.ExceptHandler (some (.Name x np)) (some n) (b₀ :: suite) pos' :: hds) ((c, ts) :: l)
def tTryA (K : PySem.W.Frag) (Wout : WX) (i : Nat) (l : List (Value × (Addr → Value → Option Addr → TS))) (tb : WX → TS) : TS := fun D σ H => tb (wManyA K Wout i D l) D σ H
section
variable {X : Cx} {n : Str} {i : Nat} {body : List Stmt} {h₀ : ExceptHandler} {hds : List ExceptHandler} {l : List (Value × (Addr → Value → Option Addr → TS))} {pos : Pos} {tb : WX → TS} {Wout : WX}
theorem ps_tryA (hs : X.stack = X.env :: X.outer) (hf : X.env.frame = some X.env.locals) (hN : X.N.Nodup) (hi : X.N[i]? = some n) (hln : X.env.kindOf n = some .local) (tk : Takes X Wout)
    (hb : ∀ (W : WX) (pn : List (Addr × Obj)) (xe : Value → Shared → Prop), Takes (X.tr pn xe) W → PassesOwn (model X.prog X.w) X.A X.env xe → PSs (X.tr pn xe) body (tb W))
    (hh : HdsA X n (h₀ :: hds) l) : PS X (.Try body (h₀ :: hds) [] [] pos) (tTryA X.K Wout i l tb) := by
  refine ⟨fun pins s σ H D I h => ?_⟩
  have ok := I.ok
  have hfr : X.A.frames = some (X.env :: X.outer) := by rw [ok.frames, hs]
  have hloc : Loc X.env.scope n := .inl hln
  refine wpAny_Try_except ?_
  refine wpAny_mono ((hb (wManyA X.K Wout i D l) (X.pn ++ pins) (fun e s₁ => wpAny (model X.prog X.w) X.A (noteFrame e X.env) (fun _ s₂ => wpAny (model X.prog X.w) X.A (setFlight e none) (fun _ s₃ =>
    wpAny (model X.prog X.w) X.A (handleBy e X.env (h₀ :: hds)) (SP X pins D) X.xe s₃) X.xe s₂) X.xe s₁) (fun u s' xx => ?_) PassesOwn.looking).run [] s σ H D (I.toTry _) h) (fun f s1 hsp => ?_) (fun e s1 he => he)
  · obtain ⟨a, B, sI, pins', σ', H', cls, d, rfl, J', nb, up, sky, na, os, ag, w⟩ := xx
    have J : Inv X pins σ' H' sI := J'.ofTry ok
    have sky' : Sky B (X.env :: X.outer) a (Zc cls d) X.env.locals s'.heap := by rw [← hs]; exact sky
    show wpAny (model X.prog X.w) X.A (noteFrame (.ref a) X.env) _ _ _
    refine Sky.land Zc.steady hfr hf sky' fun h3 fl3 up3 => ?_
    have J3 : Inv X pins σ' H' { s' with heap := h3 } := J.landed nb fl3.1 (up.trans up3) os ag
    obtain ⟨oe3, vs3, he3, hz3, hd3⟩ := fl3.there
    have notFr : ∀ {h : Heap} {o : Obj} {vs : Array Value}, h.FunFrames B (X.env :: X.outer) → h.get? a = some o → o.data = .fields vs → a ∉ frs (X.env :: X.outer) := fun {h o vs} ff e dd hm => by
      obtain ⟨_, o', e', hnf⟩ := ff.mem hm
      rw [e] at e'; cases e'
      exact hnf _ dd
    have nfr := notFr fl3.2.2.1 he3 hd3
    have nL : a ≠ X.env.locals := fun z => nfr (List.mem_filterMap.mpr ⟨X.env, List.mem_cons_self, by rw [hf, z]⟩)
    have nF : a ∉ X.fs := fun hm => by
      obtain ⟨e, he, q⟩ := List.mem_filterMap.mp hm
      exact nfr (List.mem_filterMap.mpr ⟨e, List.mem_cons_of_mem _ he, q⟩)
    have S3 := J3.suite he3 hd3 na nL nF
    have go : ∀ {hds' : List ExceptHandler} {l' : List (Value × (Addr → Value → Option Addr → TS))}, HdsA X n hds' l' → wManyA X.K Wout i D l' cls d σ' H' →
        wpAny (model X.prog X.w) X.A (handleBy (.ref a) X.env hds') (SP X pins D) X.xe { s' with heap := h3 } := by
      intro hds' l' hk
      induction hk with
      | nil =>
        intro w
        refine wpAny_handleBy_nil ?_
        obtain ⟨k1, k2, k3, oe, vs, T, oT, ts', he, hz, hd, h1, hr⟩ := id fl3
        unfold PySem.passOn
        refine wpAny_bind (wpAny_field he hd h1 ?_)
        rw [if_neg (show ¬ ((Value.ref T == Value.none) = true) from by simp)]
        have fin : wpAny (model X.prog X.w) X.A (setFlight (.ref a) X.env.frame) (fun _ s4 => wpAny (model X.prog X.w) X.A (throw (.ref a) : Sem Flow) (SP X pins D) X.xe s4) X.xe { s' with heap := h3 } := by
          rw [hf]
          refine HandSPX.setFlight_upZ fl3 fun h4 hh4 up4 => wpAny_throw (tk _ _ ?_)
          exact ⟨a, B, sI, pins, σ', H', cls, d, rfl, J, nb, (up.trans up3).trans up4, .inr (.inr (by rw [hs]; exact hh4)), na, os, ag, w⟩
        first
          | exact wpAny_bind (wpAny_pure (wpAny_bind fin))
          | exact wpAny_bind fin
      | @cons x c ts b₀ suite np pos' hds2 l2 hc hsu r ih =>
        intro w
        obtain ⟨b, hb1, hyes, hno⟩ := w
        refine wpAny_handleBy_cons (codeAny_handlers_test ?_) (by intro q; cases q)
        have LT : PySem.W.Looks (model X.prog X.w) h3 (typeOf (.ref a)) cls := fun A Q E s k q => wpAny_typeOf_ref (k _ _ he3) (by rw [hz3.1]; exact q)
        have LM := PySem.W.exm_one (M := model X.prog X.w) (J3.kIn) LT hb1
        have test : ∀ {Q : Value → Shared → Prop} {E : Value → Shared → Prop}, Q c { s' with heap := h3 } → wpAny (model X.prog X.w) (X.A.mark (some (.ref a))) (eval (.Name x np) X.env) Q E { s' with heap := h3 } := fun {Q E} q => by
          obtain ⟨hg, hdbg, hm | ⟨hm, hv, hnn⟩⟩ := hc
          · exact ld_glob (X := X.suite a ((a, oe3) :: (X.pn ++ pins))) S3 hg hm q hdbg
          · exact ld_blt (X := X.suite a ((a, oe3) :: (X.pn ++ pins))) S3 hg hm hv q hnn hdbg
        refine test (LM.here ?_)
        cases b with
        | true =>
          refine codeAny_handlers_suite_as ?_
          refine HandSPX.lands_againZ fl3 fun h4 fl4 up4 => ?_
          have J4 : Inv X pins σ' H' { s' with heap := h4 } := J.landed nb fl4.1 ((up.trans up3).trans up4) os ag
          obtain ⟨oe4, vs4, he4, hz4, hd4⟩ := fl4.there
          have S4 := J4.suite he4 hd4 na nL nF
          refine store_ok (X := X.suite a ((a, oe4) :: (X.pn ++ pins))) (v := .ref a) S4 hN hi hloc rfl (fun s5 S5 => ?_) (.inr hln)
          refine wpAny_mono ((hsu a oe4 cls d (X.pn ++ pins) hz4 ⟨_, hd4⟩).run [] s5 _ H' _ S5 (hyes rfl a na)) (fun f s6 hsp => ?_) (fun _ _ z => False.elim z)
          have end_ : ∀ {σ6 : L2.St} {H6 : Hp} {Q : Shared → Prop}, Inv (X.suite a ((a, oe4) :: (X.pn ++ pins))) [] σ6 H6 s6 → (∀ s7, Inv X pins (σ6.set i none) H6 s7 → Q s7) →
              wpAny (model X.prog X.w) X.A (do bindName X.env n .none; unbindBehindTheSuite X.env n pos') (fun _ s7 => Q s7) X.xe s6 := fun {σ6 H6 Q} S6 hq => gone_ok (S6.unsuite ok) hN hi hln hq
          cases f with
          | next =>
            obtain ⟨σ6, H6, S6, q6⟩ := hsp
            exact end_ S6 fun s7 J7 => ⟨_, _, J7, q6⟩
          | brk =>
            obtain ⟨σ6, H6, S6, q6⟩ := hsp
            exact end_ S6 fun s7 J7 => ⟨_, _, J7, q6⟩
          | cont =>
            obtain ⟨σ6, H6, S6, q6⟩ := hsp
            exact end_ S6 fun s7 J7 => ⟨_, _, J7, q6⟩
          | ret u =>
            obtain ⟨v6, σ6, H6, S6, r6, q6⟩ := hsp
            exact end_ S6 fun s7 J7 => ⟨_, _, _, J7, r6, q6⟩
        | false =>
          show wpAny _ X.A (handleBy (.ref a) X.env hds2) _ _ _
          exact ih (hno rfl)
    exact go hh w
  · cases f with
    | next =>
      obtain ⟨σ', H', J', q⟩ := hsp
      exact wpAny_execs_nil ⟨σ', H', J'.ofTry ok, q⟩
    | brk =>
      obtain ⟨σ', H', J', q⟩ := hsp
      exact ⟨σ', H', J'.ofTry ok, q⟩
    | cont =>
      obtain ⟨σ', H', J', q⟩ := hsp
      exact ⟨σ', H', J'.ofTry ok, q⟩
    | ret u =>
      obtain ⟨v, σ', H', J', r, q⟩ := hsp
      exact ⟨v, σ', H', J'.ofTry ok, r, q⟩
end

/-! ### an own error in hand -/
/-- what a class of own errors with one field f must have -/
structure Erc (K : PySem.W.Frag) (C : Addr) : Prop where
  o : OexC K C
  x : XfC K C
  i : ExcC K C
/-- isinstance(e, c), e the caught error (its class cls, its dict d) -/
def rIsD (K : PySem.W.Frag) (a : Addr) (cls : Value) (d : Option Addr) : List V → Hp → VK → Prop := fun xs H Q => ∃ (D dd : Addr) (fs : List (Str × V)) (c : V) (cv : Value) (b : Bool), cls = .ref D ∧ d = some dd ∧ H dd = some (.xd fs) ∧ Erc K D ∧
  xs = [.ref a, c] ∧ (∀ u, RelV c u → u = cv) ∧ PySem.W.kitOne K (.ref D) cv = some b ∧ Q (.bl b) H
theorem call_isD {X : Cx} {K : PySem.W.Frag} {a : Addr} {oe : Obj} {cls : Value} {d : Option Addr} {pn : List (Addr × Obj)} (hK : X.K = K) (hz : Zc cls d oe) (hf : ∃ vs, oe.data = .fields vs) : CallR (X.suite a ((a, oe) :: pn)) (.builtin "isinstance") (rIsD K a cls d) := by
  subst hK
  intro pins s σ H xs us Q I r h
  obtain ⟨D, dd, fs, c, cv, b, ecls, ed, edd, T, rfl, hcv, e, q⟩ := h
  cases r with
  | cons rx rr =>
    cases rr with
    | cons rt rr =>
      cases rr
      cases rx
      have ec := hcv _ rt
      subst ec
      subst ecls
      subst ed
      obtain ⟨hget, _⟩ := I.pin (a, oe) (List.mem_append.mpr (.inl List.mem_cons_self))
      obtain ⟨vs, hv⟩ := hf
      have hx : ObjOk X.prog X.w H s.heap dd (.xd fs) := I.hok dd _ edd
      obtain ⟨mA, hns, hr⟩ := hx
      obtain ⟨od, ho, hl⟩ := lookIn_ns hns
      have J : PySem.W.InstAt s.heap a oe D (some od) := ⟨hget, hz.1, by unfold PySem.W.notCls; rw [hv] <;> rfl, by rw [hz.2]; exact ho⟩
      have C := T.i
      have hcl : (PySem.W.clsIn X.K D).isSome = true := by
        obtain ⟨cdD, hcD, _⟩ := PySem.W.any_some C.hd
        rw [hcD]; rfl
      exact PySem.W.kia_one (PySem.W.kitx_exc hcl C.hg C.hk C.hs C.ha C.hn C.ht C.hm) I.kIn J e (fun z => nomatch z) fun tk => ⟨.bl b, H, I.kept (t' := tk) fun _ _ z => z, rfl, q⟩
/-- e.f, e the caught error -/
def tXd (K : PySem.W.Frag) (a : Addr) (cls : Value) (d : Option Addr) (f : Str) (te : TE) : TE := fun σ H Q => te σ H fun x H1 => ∃ (C dd : Addr) (fs : List (Str × V)) (v : V), x = .ref a ∧ cls = .ref C ∧ Erc K C ∧ PySem.W.findIn K (.ref C) f = some none ∧
  d = some dd ∧ H1 dd = some (.xd fs) ∧ fs.lookup f = some v ∧ Q v H1
theorem pe_xd {X : Cx} {K : PySem.W.Frag} {a : Addr} {oe : Obj} {cls : Value} {d : Option Addr} {pn : List (Addr × Obj)} {e : Expr} {te : TE} {pos : Pos} {n : Str} (hK : X.K = K)
    (hz : Zc cls d oe) (hf : ∃ vs, oe.data = .fields vs) (he : PE (X.suite a ((a, oe) :: pn)) e te) (hb : attributeBase e n X.env (eval e X.env) = eval e X.env := by rfl) :
    PE (X.suite a ((a, oe) :: pn)) (.Attribute e n pos) (tXd K a cls d n te) := by
  subst hK
  refine ⟨fun pins s σ H Q I h => ?_⟩
  refine attr_of hb (thn (he.run pins s σ H _ I h) fun u s1 hh => ?_)
  obtain ⟨x, H1, I1, rx, C, dd, fs, v, ex, ec, T, hno, ed, ea, l, q⟩ := hh
  subst ex
  obtain rfl : u = Value.ref a := rx
  subst ec
  subst ed
  obtain ⟨ha, _⟩ := I1.pin (a, oe) (List.mem_append_left _ List.mem_cons_self)
  obtain ⟨vs, hd⟩ := hf
  have hx : ObjOk X.prog X.w H1 s1.heap dd (.xd fs) := I1.hok dd _ ea
  obtain ⟨mA, hns, hr⟩ := hx
  obtain ⟨od, ho, hl⟩ := lookIn_ns hns
  obtain ⟨u, hu, ru⟩ := RelO.some_of (v := v) (o := mA n) (by rw [← l]; exact hr n)
  have J : PySem.W.InstAt s1.heap a oe C (some od) := ⟨ha, hz.1, by unfold PySem.W.notCls; rw [hd] <;> rfl, by rw [hz.2]; exact ho⟩
  exact HandSPX.exc_get I1.kIn J T.x.ga T.x.gg T.x.exC (PySem.W.findObj_own T.x.hdC hno rfl (by rw [hl, hu])) (handed_of ru) ⟨v, H1, I1.tok _, ru, q⟩

/-! ### calls that may let an error out, at the slots σ -/
section
variable {X : Cx} {CX : CXT} {k m' : Nat} {f C : Addr} {fd : FuncData} {ps ks : List Str} {sp : Sp} {E : L2.St → XK} {x m : Str} {p pos apos : Pos} {e o : Expr} {es : List Expr} {kws : List Keyword} {ta : TE} {t tk : TA}
def tMethS (C : Addr) (m : Str) (sp : Sp) (E : L2.St → XK) (te : TE) (t : TA) : TE := fun σ H Q => tMeth C m sp [] (E σ) te t σ H Q
theorem pe_methT {pl : Sem Bool} (he : PE X o ta) (c : Cls X.K C) (hm : Meth X.K C m f) (F : FnOk X.prog X.w X.K X.mg X.base CX k f fd ps sp) (hr : Room k X.A) (hb : Binds X.K fd ps []) (hx : ∀ σ, PassesAt CX X σ (E σ)) (ha : PA X (e :: es) t)
    (hst : starEach (e :: es) X.env = (false, eval e X.env) :: starEach es X.env := by rfl) (hpl : (backTo pos (starEach es X.env)).any (·.1) = false := by rfl)
    (ht : eval (.Call (.Attribute o m apos) (e :: es) [] pos) X.env = (do
      let ov ← eval o X.env
      standAt apos.atName
      let (f, first) ← holding [ov] (getMethod ov m pl)
      callWith pos f first (backTo pos (starEach (e :: es) X.env)) (backToKw pos (keywordEach [] X.env))) := by rfl) :
    PE X (.Call (.Attribute o m apos) (e :: es) [] pos) (tMethS C m sp E ta t) := by
  refine ⟨fun pins s σ H Q I h => ?_⟩
  refine PySem.W.methodCall_KW (pl := pl) (thn (he.run pins s σ H _ I h) fun u s1 ⟨x, H1, I1, rx, a, dx, fs, ex, ea, l, q⟩ => ?_) ht
  subst ex
  obtain rfl : u = Value.ref a := rx
  refine getmeth_ok I1 ea c hm l ?_
  refine PySem.W.callWith_K (first := [.ref a]) (h₀ := X.base) I.ok.mod.kin hm.kp (thn (ha.run pos pins s1 σ H1 _ I1 q) fun us s2 ⟨vs, H2, I2, r, q2⟩ => ⟨I2.kIn, ?_⟩) hst hpl
  have q3 : sp (V.ref a :: (vs ++ [])) H2 Q (E σ) := q2
  rw [List.append_nil] at q3
  exact run_fnS (us := .ref a :: us) (vs := .ref a :: vs) F hr hb (hx σ) I2 (.cons rfl r) q3
theorem run_fnNS {n : Nat} {g : List Value → List Value → List Value} {gV : List V → List V → List V} {pins : List (Addr × Obj)} {σ : L2.St} {H : Hp} {s : Shared} {Q : VK} {us ws : List Value} {vs zs : List V} (F : FnOk X.prog X.w X.K X.mg X.base CX k f fd ps sp) (hr : Room k X.A) (hb : KBn X.K fd ps n ks g gV) (hx : PassesAt CX X σ (E σ))
    (I : Inv X pins σ H s) (r : Vals vs us) (rz : Vals zs ws) (l1 : vs.length = n) (l2 : zs.length = ks.length) (h : sp (gV vs zs) H Q (E σ)) : wpAny (model X.prog X.w) X.A (call (.ref f) us (ks.zip ws)) (EP X pins σ Q) X.xe s := by
  have r2 := hb.rel r rz
  refine wpAny_call (codeAny_mono (F.run X.A X.stack s H ⟨us, ks.zip ws⟩ (g us ws) (gV vs zs) Q (E σ) hr I.env0 (hb.to s us ws I.kIn (r.length.symm.trans l1) (rz.length.symm.trans l2)) r2 h) fun r s' hq => ?_)
  cases r with
  | error e => exact hx pins H s e s' I hq
  | ok fl =>
    cases fl with
    | ret u => exact I.after hq
    | next => exact False.elim hq
    | brk => exact False.elim hq
    | cont => exact False.elim hq
def tMethKS (C : Addr) (m : Str) (n j : Nat) (sp : Sp) (gV : List V → List V → List V) (E : L2.St → XK) (te : TE) (t tk : TA) : TE := fun σ H Q => tMethK C m n j sp gV (E σ) te t tk σ H Q
theorem pe_methTK0 {n : Nat} {g : List Value → List Value → List Value} {gV : List V → List V → List V} {pl : Sem Bool} (he : PE X o ta) (c : Cls X.K C) (hm : Meth X.K C m f) (F : FnOk X.prog X.w X.K X.mg X.base CX k f fd ps sp) (hr : Room k X.A) (hb : KBn X.K fd ps n ks g gV) (hx : ∀ σ, PassesAt CX X σ (E σ)) (hkw : PK X kws tk)
    (hall : (backToKw pos (keywordEach kws X.env)).all (·.1.isSome) = true := by rfl) (hks : (backToKw pos (keywordEach kws X.env)).filterMap (·.1) = ks := by rfl)
    (hpl : ((backTo pos (starEach [] X.env)).any (·.1) || (backToKw pos (keywordEach kws X.env)).any (·.1.isNone)) = false := by rfl)
    (ht : eval (.Call (.Attribute o m apos) [] kws pos) X.env = (do
      let ov ← eval o X.env
      standAt apos.atName
      let (f, first) ← holding [ov] (getMethod ov m pl)
      callWith pos f first (backTo pos (starEach [] X.env)) (backToKw pos (keywordEach kws X.env))) := by rfl) :
    PE X (.Call (.Attribute o m apos) [] kws pos) (tMethKS C m n ks.length sp gV E ta tNil tk) := by
  refine ⟨fun pins s σ H Q I h => ?_⟩
  refine PySem.W.methodCall_KW (pl := pl) (thn (he.run pins s σ H _ I h) fun u s1 ⟨x, H1, I1, rx, a, dx, fs, ex, ea, l, q⟩ => ?_) ht
  subst ex
  obtain rfl : u = Value.ref a := rx
  refine getmeth_ok I1 ea c hm l ?_
  refine PySem.W.callWith_KW0 (first := [.ref a]) (h₀ := X.base) I.ok.mod.kin hm.kp hall ?_ hpl
  refine thn (hkw.run pos pins s1 σ H1 _ I1 q) fun ws s3 ⟨zs, H3, I3, rz, l1, l2, q3⟩ => ⟨I3.kIn, ?_⟩
  rw [hks]
  exact run_fnNS (us := [.ref a]) (vs := [.ref a]) F hr hb (hx σ) I3 (.cons rfl .nil) rz l1 l2 q3
end

theorem pss_eq {X : Cx} {b : List Stmt} {t t' : TS} (h : PSs X b t) (e : t = t') : PSs X b t' := e ▸ h
/-! readings -/
section
variable {K : PySem.W.Frag} {C a dx : Addr} {σ : L2.St} {H : Hp} {Q : VK} {nx bk ct : L2.St → Hp → Prop} {rt : VK} {te to : TE} {t tk : TA} {sp : Sp} {E : L2.St → XK} {W Wout : WX} {fs : List (Str × V)} {f m : Str} {n j i : Nat} {gV : List V → List V → List V} {cls c : Value} {d : Option Addr} {v : V} {tb : WX → TS}
  {ts : Addr → Value → Option Addr → TS} {l : List (Value × (Addr → Value → Option Addr → TS))}
theorem g_try (h : tb (wManyA K Wout i ⟨nx, rt, bk, ct⟩ l) ⟨nx, rt, bk, ct⟩ σ H) : tTryA K Wout i l tb ⟨nx, rt, bk, ct⟩ σ H := h
theorem g_methS (h : tMeth C m sp [] (E σ) te t σ H Q) : tMethS C m sp E te t σ H Q := h
theorem g_methKS (h : tMethK C m n j sp gV (E σ) te t tk σ H Q) : tMethKS C m n j sp gV E te t tk σ H Q := h
theorem g_callS (h : t σ H fun vs H1 => sp vs H1 Q (E σ)) : tCallS sp E t σ H Q := h
theorem we_at (h : W cls d σ H) : WE W σ cls d H := h
theorem wm_yes (e : PySem.W.exmOne K cls c = some true) (h : ∀ a, H a = none → ts a cls d ⟨fun σ' H' => nx (σ'.set i none) H', rt, fun σ' H' => bk (σ'.set i none) H', fun σ' H' => ct (σ'.set i none) H'⟩ (σ.set i (some (.ref a))) H) : wManyA K Wout i ⟨nx, rt, bk, ct⟩ ((c, ts) :: l) cls d σ H :=
  ⟨true, e, fun _ => h, fun z => Bool.noConfusion z⟩
theorem wm_no {D : Ends} (e : PySem.W.exmOne K cls c = some false) (h : wManyA K Wout i D l cls d σ H) : wManyA K Wout i D ((c, ts) :: l) cls d σ H := ⟨false, e, fun z => Bool.noConfusion z, fun _ => h⟩
def XdR (K : PySem.W.Frag) (a : Addr) (cls : Value) (d : Option Addr) (f : Str) (x : V) (H : Hp) (Q : VK) : Prop := ∃ (C dd : Addr) (fs : List (Str × V)) (v : V), x = .ref a ∧ cls = .ref C ∧ Erc K C ∧ PySem.W.findIn K (.ref C) f = some none ∧ d = some dd ∧ H dd = some (.xd fs) ∧ fs.lookup f = some v ∧ Q v H
theorem g_xd (h : te σ H fun x H1 => XdR K a cls d f x H1 Q) : tXd K a cls d f te σ H Q := h
theorem xd_at {dd : Addr} (hd : H dd = some (.xd fs)) (T : Erc K C) (hn : PySem.W.findIn K (.ref C) f = some none) (hl : fs.lookup f = some v) (h : Q v H) : XdR K a (.ref C) (some dd) f (.ref a) H Q := ⟨C, dd, fs, v, rfl, rfl, T, hn, rfl, hd, hl, h⟩
theorem is_ty {dd : Addr} {T : String} {b : Bool} (hd : H dd = some (.xd fs)) (e : Erc K C) (k : PySem.W.kitOne K (.ref C) (.type T) = some b) (h : Q (.bl b) H) : rIsD K a (.ref C) (some dd) [.ref a, .ty T] H Q :=
  ⟨C, dd, fs, _, _, b, rfl, rfl, hd, e, rfl, fun u r => r, k, h⟩
theorem is_ref {dd B : Addr} {b : Bool} (hd : H dd = some (.xd fs)) (e : Erc K C) (k : PySem.W.kitOne K (.ref C) (.ref B) = some b) (h : Q (.bl b) H) : rIsD K a (.ref C) (some dd) [.ref a, .ref B] H Q :=
  ⟨C, dd, fs, _, _, b, rfl, rfl, hd, e, rfl, fun u r => r, k, h⟩
/-- a made error -/
def MkOR (C : Addr) (sp : Sp) (vs : List V) (H1 : Hp) (Q : XK) : Prop := vs.length ≤ 1000 ∧ ∀ a, H1 a = none → sp (.ref a :: vs) (upd H1 a (exo a C none)) (fun v H2 => v = .non ∧ ∃ (d : Addr) (fs : List (Str × V)), H2 a = some (exo a C (some d)) ∧ H2 d = some (exd d fs) ∧ H1 d = none ∧ Q (.ref C) (some d) (upd (del H2 a) d (.xd fs))) (fun _ _ _ => False)
def spErr (K : PySem.W.Frag) (f : Str) : Sp := fun vs H Q _ => ∃ (a C : Addr) (v : V), vs = [.ref a, v] ∧ H a = some (exo a C none) ∧ OexC K C ∧ PySem.W.findIn K (.ref C) f = some none ∧ ∀ dx, H dx = none → dx ≠ a → Q .non (upd (upd H dx (exd dx [(f, v)])) a (exo a C (some dx)))
theorem err_at (T : Erc K C) (hn : PySem.W.findIn K (.ref C) f = some none) {Q : XK} (h : ∀ d H', Fr H d → Same H H' → H' d = some (.xd [(f, v)]) → Q (.ref C) (some d) H') : MkOR C (spErr K f) [v] H Q := by
  refine ⟨by simp, fun a ha => ⟨a, C, v, rfl, upd_same, T.o, hn, fun dx hdx hne => ⟨rfl, dx, _, upd_same, (upd_ne hne).trans upd_same, ?_, ?_⟩⟩⟩
  · rwa [upd_ne hne] at hdx
  · rw [upd_ne hne] at hdx
    refine h dx _ ⟨hdx⟩ (fun b o e => ?_) upd_same
    have n1 : b ≠ dx := ne_of_none e hdx
    have n2 : b ≠ a := ne_of_none e ha
    rw [upd_ne n1, del_ne n2, upd_ne n2, upd_ne n1, upd_ne n2]
    exact e
theorem err_len (h : spErr K f vs H Q E0) : vs.length = 2 := by
  obtain ⟨a, C, v, rfl, _⟩ := h
  rfl
theorem g_raise {Q : XK} (h : t σ H fun vs H1 => MkOR C sp vs H1 Q) : tMkO C sp [] t σ H Q := by
  have e : (fun (vs : List V) (H1 : Hp) => MkOR C sp vs H1 Q) = fun vs H1 => vs.length ≤ 1000 ∧ ∀ a, H1 a = none → sp (.ref a :: (vs ++ [])) (upd H1 a (exo a C none)) (fun v H2 => v = .non ∧ ∃ (d : Addr) (fs : List (Str × V)), H2 a = some (exo a C (some d)) ∧ H2 d = some (exd d fs) ∧ H1 d = none ∧ Q (.ref C) (some d) (upd (del H2 a) d (.xd fs))) (fun _ _ _ => False) := by
    funext vs H1; simp only [List.append_nil]; rfl
  rw [e] at h
  exact h
end
/-! tuples, comprehended; data that differ -/
section
variable {K : PySem.W.Frag} {a : Addr} {σ : L2.St} {H : Hp} {Q : VK} {xs : List V} {tl te : TE} {g : TG} {tt : TT} {vs : List Nat} {x y : V}
def LcU (K : PySem.W.Frag) (g : TG) (tt : TT) (te : TE) (vs : List Nat) (σ : L2.St) (x : V) (H1 : Hp) (Q : VK) : Prop := ∃ a, x = .ref a ∧ (∃ xs, SqT K H1 a xs) ∧ ∀ D, H1 D = none → ∃ W : Nat → Nat → Hp → Prop, (∃ m, W 0 m (upd H1 D (.lst []))) ∧ ∀ i m H, W i m H →
  ((Itt K a).stop i H ∧ Q (.ref D) H) ∨ ((Itt K a).go i H ∧ ∃ Nx : Hp → Prop, (∀ H', Nx H' → ∃ m', m' < m ∧ W (i + 1) m' H') ∧ ∀ x H', (Itt K a).yld i H x H' → g x (wipe σ vs) H' fun σ2 H2 => wipe σ2 vs = wipe σ vs ∧ tt σ2 H2 fun b H3 =>
    if b = true then te σ2 H3 fun y H4 => ∃ acc, H4 D = some (.lst acc) ∧ acc.length < sizeLine ∧ Nx (upd H4 D (.lst (acc ++ [y]))) else Nx H3)
theorem g_lcu (h : tl σ H fun x H1 => LcU K g tt te vs σ x H1 Q) : tLc (iTup K tl) g tt te vs σ H Q := h
theorem lcu_fun (f : V → Option V) (h1 : H a = some (.tup xs)) (hz : xs.length ≤ 100000)
    (hs : ∀ x ∈ xs, ∀ H1, Same H H1 → ∀ R : Option V → Hp → Prop, (∀ H2, Same H1 H2 → R (f x) H2) → LcT g tt te vs σ x H1 R)
    (k : ∀ D H', Fr H D → Same H H' → H' D = some (.lst (xs.filterMap f)) → Q (.ref D) H') : LcU K g tt te vs σ (.ref a) H Q := by
  refine ⟨a, rfl, ⟨xs, SqT.of h1⟩, fun D hD => lc_tup (xs := xs) (fun i H' => i ≤ xs.length ∧ Same H H' ∧ H' D = some (.lst ((xs.take i).filterMap f))) ⟨Nat.zero_le _, same_upd hD, upd_same⟩ (fun i H' _ q => SqT.of (q.2.1 _ _ h1)) ?_ ?_⟩
  · rintro i x H1 hx ⟨hi, sH, eD⟩
    have hlt : i < xs.length := (List.getElem?_eq_some_iff.mp hx).1
    refine hs x (List.mem_of_getElem? hx) H1 sH (fun o H4 => match o with
      | some y => ∃ acc, H4 D = some (.lst acc) ∧ acc.length < sizeLine ∧ (i + 1 ≤ xs.length ∧ Same H (upd H4 D (.lst (acc ++ [y]))) ∧ (upd H4 D (.lst (acc ++ [y]))) D = some (.lst ((xs.take (i + 1)).filterMap f)))
      | none => i + 1 ≤ xs.length ∧ Same H H4 ∧ H4 D = some (.lst ((xs.take (i + 1)).filterMap f))) fun H2 s2 => ?_
    have tk := take_fm (f := f) hx
    cases e : f x with
    | none =>
      rw [e] at tk
      exact ⟨hlt, sH.trans s2, by rw [tk, List.append_nil]; exact s2 _ _ eD⟩
    | some y =>
      rw [e] at tk
      refine ⟨_, s2 _ _ eD, ?_, hlt, fun b o q => ?_, by rw [upd_same, tk]⟩
      · have l1 := fm_len (f := f) (xs.take i)
        rw [List.length_take] at l1
        exact Nat.lt_of_le_of_lt (by omega : _ ≤ 100000) (by decide)
      · rw [upd_ne (ne_of_none q hD)]
        exact s2 _ _ (sH _ _ q)
  · rintro H1 ⟨_, sH, eD⟩
    rw [List.take_length] at eD
    exact k D H1 ⟨hD⟩ sH eD
theorem o_ned {d : PyData} (h1 : Dp K H x d) (h2 : Dp K H y d) (hs : SeqAt.shaped d = true) (h : Q (.bl false) H) : rNeD K x y H Q :=
  ⟨d, d, h1, h2, hs, hs, by rw [SeqAt.eqv_refl d (SeqAt.canLay_of_shaped hs)]; exact h⟩
end
/-! isinstance and clauses, by what the top tells -/
section
variable {K : PySem.W.Frag} {A B : Addr}
theorem kit_no (hd : PySem.W.hasDictIn K B = true) (ht : PySem.W.typeIn K (.ref B) = some (.type "type")) (hs : PySem.W.subIn K (.ref A) (.ref B) = some false) (hr : PySem.W.subIn K (.ref A) (.ref A) = some true) : PySem.W.kitOne K (.ref A) (.ref B) = some false := by
  obtain ⟨cd, hc, _⟩ := PySem.W.any_some hd
  have ne : ¬ ((Value.ref A == Value.ref B) = true) := fun z => by
    have e : A = B := Value.ref.inj (beq_iff_eq.mp z)
    subst e
    rw [hr] at hs
    cases hs
  have e2 : ((PySem.W.clsIn K B).isSome && PySem.W.typeIn K (.ref B) == some (.type "type")) = true := by rw [hc, ht] <;> rfl
  unfold PySem.W.kitOne
  rw [if_neg ne]
  show (if ((PySem.W.clsIn K B).isSome && PySem.W.typeIn K (.ref B) == some (.type "type")) = true then PySem.W.subIn K (.ref A) (.ref B) else none) = some false
  rw [if_pos e2]
  exact hs
theorem kit_ve (hs : PySem.W.subIn K (.ref A) (.type "ValueError") = some true) : PySem.W.kitOne K (.ref A) (.type "ValueError") = some true := by
  have ne : ¬ ((Value.ref A == Value.type "ValueError") = true) := fun z => by
    have e := beq_iff_eq.mp z
    cases e
  unfold PySem.W.kitOne
  rw [if_neg ne]
  show (if PySem.W.kitMeta "ValueError" = true then PySem.W.subIn K (.ref A) (.type "ValueError") else none) = some true
  rw [if_pos (by decide +kernel)]
  exact hs
end
end L3

set_option Elab.async false
set_option linter.all false
set_option maxRecDepth 100000
set_option maxHeartbeats 2000000
/-! Sets of ints by their number, while, gcd. -/
namespace L3
open PySem L2 PyProof.Rows
/-! ### the first occurrences -/
def dd (ns : List Int) : List Int := ns.foldl step_dedup []
theorem dd_first (ns : List Int) : firstMet (fun i => ns.getD i 0) ns.length = dd ns := by
  have e : (List.range ns.length).map (fun i => ns.getD i 0) = ns := by
    apply List.ext_getElem
    · simp
    · intro i h1 h2
      simp at h1
      simp [h1]
  show ((List.range ns.length).map (fun i => ns.getD i 0)).foldl step_dedup [] = dd ns
  rw [e]
  rfl
theorem sd_in (σ : List Int) (y : Int) : step_dedup σ y = if y ∈ σ then σ else σ ++ [y] := by
  unfold step_dedup
  by_cases h : y ∈ σ
  · have : σ.any (· == y) = true := List.any_eq_true.mpr ⟨y, h, by simp⟩
    simp [h]
  · simp [h]
theorem dd_le (ns : List Int) : ∀ σ : List Int, (ns.foldl step_dedup σ).length ≤ σ.length + ns.length := by
  induction ns with
  | nil => intro σ; exact Nat.le_refl _
  | cons y r ih =>
    intro σ
    rw [List.foldl_cons, sd_in, List.length_cons]
    by_cases h : y ∈ σ
    · rw [if_pos h]; have := ih σ; omega
    · rw [if_neg h]; have := ih (σ ++ [y]); rw [List.length_append, List.length_singleton] at this; omega
theorem dd_ltF (ns : List Int) : ∀ σ : List Int, ((∃ x, x ∈ ns ∧ x ∈ σ) ∨ ¬ ns.Nodup) → (ns.foldl step_dedup σ).length < σ.length + ns.length := by
  induction ns with
  | nil => intro σ h; rcases h with ⟨x, h, _⟩ | h; cases h; exact absurd List.nodup_nil h
  | cons y r ih =>
    intro σ h
    rw [List.foldl_cons, sd_in, List.length_cons]
    by_cases hy : y ∈ σ
    · rw [if_pos hy]; have := dd_le r σ; omega
    · rw [if_neg hy]
      have : (r.foldl step_dedup (σ ++ [y])).length < (σ ++ [y]).length + r.length := by
        apply ih
        rcases h with ⟨x, h1, h2⟩ | h
        · rcases List.mem_cons.mp h1 with rfl | h1
          · exact absurd h2 hy
          · exact .inl ⟨x, h1, List.mem_append.mpr (.inl h2)⟩
        · rw [List.nodup_cons] at h
          by_cases hr : y ∈ r
          · exact .inl ⟨y, hr, List.mem_append.mpr (.inr (List.mem_singleton.mpr rfl))⟩
          · exact .inr fun z => h ⟨hr, z⟩
      rw [List.length_append, List.length_singleton] at this
      omega
theorem dd_eqF (ns : List Int) : ∀ σ : List Int, (∀ x, x ∈ ns → x ∉ σ) → ns.Nodup → (ns.foldl step_dedup σ).length = σ.length + ns.length := by
  induction ns with
  | nil => intro σ _ _; rfl
  | cons y r ih =>
    intro σ h hn
    rw [List.nodup_cons] at hn
    rw [List.foldl_cons, sd_in, if_neg (h y List.mem_cons_self), ih _ _ hn.2]
    · simp only [List.length_append, List.length_cons, List.length_nil]; omega
    · intro x hx hm
      rcases List.mem_append.mp hm with hm | hm
      · exact h x (List.mem_cons_of_mem _ hx) hm
      · rw [List.mem_singleton] at hm; rw [hm] at hx; exact hn.1 hx
/-- as many as there are, exactly if no two are the same -/
theorem dd_len (ns : List Int) : (dd ns).length = ns.length ↔ ns.Nodup := by
  constructor
  · intro h
    apply Classical.byContradiction
    intro hn
    have := dd_ltF ns [] (.inr hn)
    rw [List.length_nil, Nat.zero_add] at this
    exact absurd h (Nat.ne_of_lt this)
  · intro h
    have := dd_eqF ns [] (fun _ _ z => by cases z) h
    rw [List.length_nil, Nat.zero_add] at this
    exact this
section
variable {K : PySem.W.Frag} {a : Addr} {H : Hp} {Q : VK} {ns : List Int} {xs : List V}
def LsR (K : PySem.W.Frag) (x : V) (H : Hp) (Q : VK) : Prop := ∃ (l : Addr) (ns : List Int), x = .ref l ∧ SqL K H l (ns.map V.int) ∧ ns.length ≤ 4000 ∧ Q (.int ((dd ns).length : Nat)) H
def tLenSetG (K : PySem.W.Frag) (ta : TE) : TE := fun σ H Q => ta σ H fun x H1 => LsR K x H1 Q
theorem g_lset {ta : TE} {σ : L2.St} (h : ta σ H fun x H1 => LsR K x H1 Q) : tLenSetG K ta σ H Q := h
theorem ls_at (h1 : H a = some (.lst xs)) (e : xs = ns.map V.int) (hl : ns.length ≤ 4000) (h : Q (.int ((dd ns).length : Nat)) H) : LsR K (.ref a) H Q := ⟨a, ns, rfl, SqL.of (e ▸ h1), hl, h⟩
end
/-- len(set(l)) of a list of ints, some of which may be the same -/
theorem pe_lenSetG {X : Cx} {K : PySem.W.Frag} {o : Expr} {to : TE} {p1 p2 p3 p4 : Pos} (hK : X.K = K) (g1 : Gl X "len") (m1 : X.mg "len" = none) (g2 : Gl X "set") (m2 : X.mg "set" = none) (ho : PE X o to) (calm : X.calm = true := by rfl)
    (one : starEach [o] X.env = (false, eval o X.env) :: starEach [] X.env := by rfl) :
    PE X (.Call (.Name "len" p1) [.Call (.Name "set" p2) [o] [] p3] [] p4) (tLenSetG K to) := by
  subst hK
  constructor
  intro pins s0 σ H0 Q0 J hw
  apply Call_ (ld_blt J g1 m1 boot_len _)
  apply callWith_builtin1 (args_cons _ rfl) rfl rfl
  apply Call_ (ld_blt J g2 m2 boot_set _)
  apply callWith_type1 _ one rfl
  apply args_cons _ one
  apply thn (ho.run pins s0 σ H0 _ J hw)
  rintro v s1 ⟨x, H1, J1, rx, l, ns, ex, sq, short, q⟩
  subst ex
  cases rx
  apply args_nil
  obtain ⟨us, vs, plain, room⟩ := J1.list sq
  have sz : us.toArray.size = ns.length := by rw [List.size_toArray, ← vs.length, List.length_map]
  apply call_set_list (J1.ok.hd calm) plain.isList (by simpa using RZ.intsAre_vals vs) (by unfold scanBound; omega)
  intro h2 tk made kept
  apply args_nil
  rw [sz, dd_first] at made
  obtain ⟨ob, els, epoch, tab, at_, exact_, data_, _, _, _, fits_, size_⟩ := made
  have J2 : Inv X pins σ H1 { s1 with heap := h2, toks := tk } := J1.kept fun b ob e => kept b ob (Heap.lt_size e) e
  have le : (dd ns).length ≤ ns.length := by have := dd_le ns []; rw [List.length_nil, Nat.zero_add] at this; exact this
  exact call_len_set at_ exact_ data_ fits_ (by omega) ⟨.int ((dd ns).length : Nat), H1, J2.tok _, ⟨_, by rw [size_]⟩, q⟩

/-- f(k = v, ..) -/
theorem pe_callN0 {X : Cx} {CX : CXT} {lv : Nat} {fa : Addr} {fd : FuncData} {ps ks : List PySem.Str} {sp : Sp} {g : List Value → List Value → List Value} {gV : List V → List V → List V} {E : XK} {nm : PySem.Str} {p1 p2 : Pos} {kws : List Keyword} {tk : TA}
    (F : FnOk X.prog X.w X.K X.mg X.base CX lv fa fd ps sp) (room : Room lv X.A) (glob : Gl X nm) (isf : X.mg nm = some (.ref fa)) (kp : PySem.W.keepIn X.K (.ref fa) = true) (bnd : KBn X.K fd ps 0 ks g gV) (pass : Passes CX X E) (hkw : PK X kws tk)
    (named : (backToKw p2 (keywordEach kws X.env)).all (·.1.isSome) = true := by rfl) (same : (backToKw p2 (keywordEach kws X.env)).filterMap (·.1) = ks := by rfl) (nodbg : (nm == ("__debug__" : PySem.Str)) = false := by decide)
    (plain : ((backTo p2 (starEach [] X.env)).any (·.1) || (backToKw p2 (keywordEach kws X.env)).any (·.1.isNone)) = false := by rfl) :
    PE X (.Call (.Name nm p1) [] kws p2) (tCallN 0 ks.length sp gV E tNil tk) := by
  constructor
  intro pins s0 σ H0 Q0 J hw
  apply wpAny_Call_Name_kw (ld_glob J glob isf _ nodbg)
  apply PySem.W.callWith_KW0 (h₀ := X.base) J.ok.mod.kin kp named _ plain
  apply thn (hkw.run p2 pins s0 σ H0 _ J hw)
  rintro ws s1 ⟨zs, H1, J1, rz, n1, n2, q⟩
  refine ⟨J1.kIn, ?_⟩
  rw [same]
  exact run_fnN (us := []) (vs := []) F room bnd pass J1 .nil rz n1 n2 q
/-! ### gcd -/
/-- no tactic is to look into it -/
@[irreducible] def gcdZ (i j : Int) : Int := ((Nat.gcd i.natAbs j.natAbs : Nat) : Int)
section
variable {H : Hp} {Q : VK} {i j : Int}
theorem b_gcd (h : Q (.int (gcdZ i j)) H) : rGcd [.int i, .int j] H Q := ⟨i, j, rfl, by unfold gcdZ at h; exact h⟩
end
/-! ### while -/
section
variable {c : TT} {tb : TS} {nx bk ct : L2.St → Hp → Prop} {rt : VK} {σ : L2.St} {H : Hp} {b : Bool} {P : Prop}
/-- a turn of a while, behind its test -/
def WhB (b : Bool) (tb : TS) (Pv : Nat → L2.St → Hp → Prop) (m : Nat) (nx : L2.St → Hp → Prop) (rt : VK) (σ : L2.St) (H : Hp) : Prop :=
  if b = true then ∃ N : L2.St → Hp → Prop, (∀ σ' H', N σ' H' → ∃ m', m' < m ∧ Pv m' σ' H') ∧ tb ⟨N, rt, nx, N⟩ σ H else nx σ H
variable {Pv : Nat → L2.St → Hp → Prop} {m : Nat}
theorem f_while (Pv : Nat → L2.St → Hp → Prop) (h0 : ∃ m, Pv m σ H) (hs : ∀ m σ' H', Pv m σ' H' → c σ' H' fun b H1 => WhB b tb Pv m nx rt σ' H1) : tWhile c tb ⟨nx, rt, bk, ct⟩ σ H := ⟨Pv, h0, hs⟩
theorem wh_T (h : tb ⟨fun σ2 H2 => ∃ m', m' < m ∧ Pv m' σ2 H2, rt, nx, fun σ2 H2 => ∃ m', m' < m ∧ Pv m' σ2 H2⟩ σ H) : WhB true tb Pv m nx rt σ H := ⟨_, fun _ _ z => z, h⟩
theorem wh_F (h : nx σ H) : WhB false tb Pv m nx rt σ H := h
theorem wh_y {dP : Decidable P} (e : P) (h : tb ⟨fun σ2 H2 => ∃ m', m' < m ∧ Pv m' σ2 H2, rt, nx, fun σ2 H2 => ∃ m', m' < m ∧ Pv m' σ2 H2⟩ σ H) : WhB (decide P) tb Pv m nx rt σ H := by rw [decide_eq_true e]; exact wh_T h
theorem wh_n {dP : Decidable P} (e : ¬ P) (h : nx σ H) : WhB (decide P) tb Pv m nx rt σ H := by rw [decide_eq_false e]; exact wh_F h
theorem wh_2 {dP : Decidable P} (h1 : P → tb ⟨fun σ2 H2 => ∃ m', m' < m ∧ Pv m' σ2 H2, rt, nx, fun σ2 H2 => ∃ m', m' < m ∧ Pv m' σ2 H2⟩ σ H) (h2 : ¬ P → nx σ H) : WhB (decide P) tb Pv m nx rt σ H := by
  by_cases h : P
  · exact wh_y h (h1 h)
  · exact wh_n h (h2 h)
theorem wh_n2 {dP : Decidable P} (h1 : ¬ P → tb ⟨fun σ2 H2 => ∃ m', m' < m ∧ Pv m' σ2 H2, rt, nx, fun σ2 H2 => ∃ m', m' < m ∧ Pv m' σ2 H2⟩ σ H) (h2 : P → nx σ H) : WhB (!decide P) tb Pv m nx rt σ H := by
  by_cases h : P
  · rw [decide_eq_true h]; exact wh_F (h2 h)
  · rw [decide_eq_false h]; exact wh_T (h1 h)
end
section
variable {K : PySem.W.Frag} {A B : Addr}
theorem kit_yes (hd : PySem.W.hasDictIn K B = true) (ht : PySem.W.typeIn K (.ref B) = some (.type "type")) (hs : PySem.W.subIn K (.ref A) (.ref B) = some true) : PySem.W.kitOne K (.ref A) (.ref B) = some true := by
  obtain ⟨cd, hc, _⟩ := PySem.W.any_some hd
  have both : ((PySem.W.clsIn K B).isSome && PySem.W.typeIn K (.ref B) == some (.type "type")) = true := by rw [hc, ht] <;> rfl
  unfold PySem.W.kitOne
  by_cases z : (Value.ref A == Value.ref B) = true
  · rw [if_pos z]
  · rw [if_neg z]
    show (if ((PySem.W.clsIn K B).isSome && PySem.W.typeIn K (.ref B) == some (.type "type")) = true then _ else _) = _
    rw [if_pos both, hs]
end
end L3

set_option Elab.async false
set_option linter.all false
set_option maxRecDepth 100000
set_option maxHeartbeats 2000000
/-! Great ints by their bits, chains, drawn lists. -/
namespace L3
open PySem L2 PyProof.Rows
theorem Sz.bits {i : Int} {a : Nat} (h : Builtin.Int.intBits i ≤ a) : Sz a i := lt_pow_of_bits h (Nat.le_refl a)
theorem mul_big {a b : Nat} {i j : Int} (ha : Sz a i) (hb : Sz b j) (h : a + b ≤ 134217728) : IntMulOk i j := by
  have h1 : Builtin.Int.intBits i ≤ a := intBits_le ha
  have h2 : Builtin.Int.intBits j ≤ b := intBits_le hb
  have h3 : Builtin.Int.intTooBig ((Builtin.Int.intBits i : Int) + (Builtin.Int.intBits j : Int)) = false := by
    unfold Builtin.Int.intTooBig bitsLine
    simp only [decide_eq_false_iff_not]
    omega
  unfold IntMulOk
  rw [h3, Bool.and_false]
  simp
/-- an int of a script -/
@[irreducible] def Big (i : Int) : Prop := Builtin.Int.intBits i ≤ 1048576
theorem Big.zero : Big 0 := by unfold Big; exact Nat.zero_le _
theorem Big.of {i : Int} (h : Builtin.Int.intBits i ≤ 1048576) : Big i := by unfold Big; exact h
theorem Big.mul {i j : Int} (hi : Big i) (hj : Big j) : IntMulOk i j := by
  unfold Big at hi hj
  have h3 : Builtin.Int.intTooBig ((Builtin.Int.intBits i : Int) + (Builtin.Int.intBits j : Int)) = false := by
    unfold Builtin.Int.intTooBig bitsLine
    simp only [decide_eq_false_iff_not]
    omega
  unfold IntMulOk
  rw [h3, Bool.and_false]
  simp
section
variable {K : PySem.W.Frag} {σ : L2.St} {H : Hp} {Q : VK} {ta tb tc : TE} {r r' : R2} {i j : Int}
theorem g_chain (h : ta σ H fun x H1 => tb σ H1 fun y H2 => r x y H2 fun z H3 => AndVR z (fun σ' H' Q' => tc σ' H' fun w H4 => r' y w H4 Q') σ H3 Q) : tChain r r' ta tb tc σ H Q := h
theorem g_beta {f : TE} (h : f σ H Q) : (fun σ' H' Q' => f σ' H' Q') σ H Q := h
/-- drawn below these bounds -/
inductive Draw : List Int → List Int → Prop
  | nil : Draw [] []
  | cons {t d : Int} {ts ds : List Int} (h0 : 0 ≤ d) (h1 : d < t) (r : Draw ts ds) : Draw (t :: ts) (d :: ds)
theorem Draw.snoc {t d : Int} (h0 : 0 ≤ d) (h1 : d < t) : ∀ {ts ds : List Int}, Draw ts ds → Draw (ts ++ [t]) (ds ++ [d])
  | _, _, .nil => .cons h0 h1 .nil
  | _, _, .cons a b r => .cons a b (r.snoc h0 h1)
theorem Draw.len : ∀ {ts ds : List Int}, Draw ts ds → ds.length = ts.length
  | _, _, .nil => rfl
  | _, _, .cons _ _ r => by rw [List.length_cons, List.length_cons, r.len]
theorem take_snoc {xs : List Int} {i : Nat} (h : i < xs.length) : xs.take (i + 1) = xs.take i ++ [xs[i]] := by
  rw [List.take_add_one, List.getElem?_eq_getElem h]
  rfl
end
end L3
namespace L3
open PySem L2 PyProof.Rows
theorem Sz.zero (a : Nat) : Sz a 0 := by show 0 < 2 ^ a; exact Nat.two_pow_pos a
theorem gcdZ_pos {t n : Int} (hn : 1 ≤ n) : 1 ≤ gcdZ t n := by
  unfold gcdZ
  have g0 : 0 < Nat.gcd t.natAbs n.natAbs := Nat.gcd_pos_of_pos_right _ (by omega)
  omega
theorem gcdZ_le {t n : Int} (hn : 1 ≤ n) : gcdZ t n ≤ n := by
  unfold gcdZ
  have g1 : Nat.gcd t.natAbs n.natAbs ≤ n.natAbs := Nat.gcd_le_right _ (by omega)
  omega
theorem gcdZ_dl (t n : Int) : gcdZ t n ∣ t := by unfold gcdZ; exact Int.natAbs_dvd_natAbs.mp (by rw [Int.natAbs_natCast]; exact Nat.gcd_dvd_left _ _)
theorem gcdZ_dr (t n : Int) : gcdZ t n ∣ n := by unfold gcdZ; exact Int.natAbs_dvd_natAbs.mp (by rw [Int.natAbs_natCast]; exact Nat.gcd_dvd_right _ _)
theorem gcdZ_comm (t n : Int) : gcdZ t n = gcdZ n t := by unfold gcdZ; rw [Nat.gcd_comm]
theorem gcdZ_0 {c : Int} (h : 0 ≤ c) : gcdZ c 0 = c := by unfold gcdZ; rw [Int.natAbs_zero, Nat.gcd_zero_right]; omega
theorem gcdZ_greatest {t n d : Int} (h1 : d ∣ t) (h2 : d ∣ n) : d ∣ gcdZ t n := by
  unfold gcdZ
  rw [← Int.natAbs_dvd_natAbs, Int.natAbs_natCast]
  exact Nat.dvd_gcd (Int.natAbs_dvd_natAbs.mpr h1) (Int.natAbs_dvd_natAbs.mpr h2)
theorem gcdZ_nn (t n : Int) : 0 ≤ gcdZ t n := by unfold gcdZ; omega
/-- the same divisors, the same greatest one -/
theorem gcdZ_eq {a b c d : Int} (h1 : ∀ z : Int, z ∣ a → z ∣ b → z ∣ c ∧ z ∣ d) (h2 : ∀ z : Int, z ∣ c → z ∣ d → z ∣ a ∧ z ∣ b) : gcdZ a b = gcdZ c d := by
  apply Int.dvd_antisymm (gcdZ_nn _ _) (gcdZ_nn _ _)
  · obtain ⟨p, q⟩ := h1 _ (gcdZ_dl a b) (gcdZ_dr a b); exact gcdZ_greatest p q
  · obtain ⟨p, q⟩ := h2 _ (gcdZ_dl c d) (gcdZ_dr c d); exact gcdZ_greatest p q
structure Euc (f n c r t u : Int) : Prop where
  c1 : 1 ≤ c
  cn : c ≤ n
  r0 : 0 ≤ r
  rn : r ≤ n
  g : gcdZ c r = gcdZ f n
  ct : n ∣ f * t - c
  ru : n ∣ f * u - r
  tn : (t.natAbs : Int) ≤ n
  b : (t.natAbs : Int) * r + u.natAbs * c ≤ n
theorem Euc.start (f : Int) {n : Int} (hn : 1 ≤ n) : Euc f n n (f % n) 0 1 := by
  have r0 := Int.emod_nonneg f (show n ≠ 0 by omega)
  have r1 := Int.emod_lt_of_pos f (show 0 < n by omega)
  have e := Int.emod_add_mul_ediv f n
  refine ⟨hn, Int.le_refl _, r0, by omega, ?_, ?_, ?_, by omega, by simp⟩
  · rw [gcdZ_comm f n]
    apply gcdZ_eq
    · intro z h1 h2
      refine ⟨h1, ?_⟩
      rw [← e]
      exact Int.dvd_add h2 (Int.dvd_mul_of_dvd_left h1)
    · intro z h1 h2
      refine ⟨h1, ?_⟩
      rw [Int.emod_def]
      exact Int.dvd_sub h2 (Int.dvd_mul_of_dvd_left h1)
  · rw [Int.mul_zero, Int.zero_sub]; exact Int.dvd_neg.mpr (Int.dvd_refl n)
  · rw [Int.mul_one]; exact ⟨f / n, by omega⟩
theorem Euc.u_le {f n c r t u : Int} (h : Euc f n c r t u) : (u.natAbs : Int) ≤ n := by
  have h1 : 0 ≤ (t.natAbs : Int) * r := Int.mul_nonneg (by omega) h.r0
  have h2 : (u.natAbs : Int) * 1 ≤ u.natAbs * c := Int.mul_le_mul_of_nonneg_left h.c1 (by omega)
  have := h.b
  omega
theorem Euc.step {f n c r t u : Int} (h : Euc f n c r t u) (h0 : r ≠ 0) : Euc f n r (c - c / r * r) u (t - c / r * u) := by
  have r1 : 1 ≤ r := by have := h.r0; omega
  have w0 : 0 ≤ c / r := Int.ediv_nonneg (by have := h.c1; omega) h.r0
  have e : c - c / r * r = c % r := by rw [Int.emod_def, Int.mul_comm]
  have m0 := Int.emod_nonneg c h0
  have m1 := Int.emod_lt_of_pos c (show 0 < r by omega)
  have un := h.u_le
  have b := h.b
  have rn := h.rn
  generalize hw : c / r = w at *
  refine ⟨r1, h.rn, by omega, by omega, ?_, h.ru, ?_, un, ?_⟩
  · rw [← h.g]
    apply gcdZ_eq
    · intro z h1 h2
      refine ⟨?_, h1⟩
      have : c = (c - w * r) + w * r := by omega
      rw [this]
      exact Int.dvd_add h2 (Int.dvd_mul_of_dvd_right h1)
    · intro z h1 h2
      exact ⟨h2, Int.dvd_sub h1 (Int.dvd_mul_of_dvd_right h2)⟩
  · have : f * (t - w * u) - (c - w * r) = (f * t - c) - w * (f * u - r) := by grind
    rw [this]
    exact Int.dvd_sub h.ct (Int.dvd_mul_of_dvd_right h.ru)
  · have a1 : (t - w * u).natAbs ≤ t.natAbs + w.natAbs * u.natAbs := by rw [← Int.natAbs_mul]; exact Int.natAbs_sub_le _ _
    have a2 : ((t - w * u).natAbs : Int) ≤ t.natAbs + w * u.natAbs := by
      have : ((t.natAbs + w.natAbs * u.natAbs : Nat) : Int) = t.natAbs + w * u.natAbs := by rw [Int.natCast_add, Int.natCast_mul, Int.natAbs_of_nonneg w0]
      omega
    have a3 : ((t - w * u).natAbs : Int) * r ≤ (t.natAbs + w * u.natAbs) * r := Int.mul_le_mul_of_nonneg_right a2 (by omega)
    have a4 : (u.natAbs : Int) * (c - w * r) + (t.natAbs + w * u.natAbs) * r = (t.natAbs : Int) * r + u.natAbs * c := by grind
    omega
theorem Euc.done {f n c t u : Int} (h : Euc f n c 0 t u) : c = gcdZ f n := by
  have := h.g
  rw [gcdZ_0 (by have := h.c1; omega)] at this
  exact this
theorem sol_ok {f n t W : Int} (hn : 1 ≤ n) (hw : W % gcdZ f n = 0) (ht : n ∣ f * t - gcdZ f n) : (f * ((W / gcdZ f n * t) % (n / gcdZ f n)) - W) % n = 0 := by
  obtain ⟨k, hk⟩ := ht
  obtain ⟨a, ha⟩ := gcdZ_dl f n
  obtain ⟨m, hm⟩ := gcdZ_dr f n
  have g1 := gcdZ_pos (t := f) hn
  have e1 : n / gcdZ f n = m := by
    have : (gcdZ f n * m) / gcdZ f n = m := Int.mul_ediv_cancel_left _ (by omega)
    rw [← hm] at this
    exact this
  have e2 : W = gcdZ f n * (W / gcdZ f n) := by have := Int.emod_add_mul_ediv W (gcdZ f n); omega
  rw [e1]
  generalize W / gcdZ f n = v at *
  generalize gcdZ f n = g at *
  apply Int.emod_eq_zero_of_dvd
  rw [Int.emod_def]
  refine ⟨v * k - a * ((v * t) / m), ?_⟩
  generalize (v * t) / m = q at *
  have : f * (v * t - m * q) - W = v * (f * t - g) - (f * m) * q + (g * v - W) := by grind
  rw [this, hk, ← e2]
  have : f * m = n * a := by rw [ha, hm]; grind
  rw [this]
  grind
end L3
namespace L3
open PySem L2 PyProof.Rows
theorem bez_go {f n : Int} : ∀ (m : Nat) (c r t u : Int), r.toNat = m → Euc f n c r t u → ∃ t', n ∣ f * t' - gcdZ f n := by
  intro m
  induction m using Nat.strongRecOn with
  | ind m ih =>
    intro c r t u e h
    by_cases z : r = 0
    · subst z
      refine ⟨t, ?_⟩
      rw [← h.done]
      exact h.ct
    · have h2 := h.step z
      have r1 : 0 < r := by have := h.r0; omega
      have m1 := Int.emod_lt_of_pos c r1
      have e3 : c - c / r * r = c % r := by rw [Int.emod_def, Int.mul_comm]
      exact ih (c - c / r * r).toNat (by have := h2.r0; omega) _ _ _ _ rfl h2
theorem bez (f : Int) {n : Int} (hn : 1 ≤ n) : ∃ t, n ∣ f * t - gcdZ f n := bez_go _ _ _ _ _ rfl (Euc.start f hn)
/-- n divides j times t exactly if n over the greatest common divisor divides j -/
theorem timesZ {n t : Int} (hn : 1 ≤ n) (j : Int) : (j * t) % n = 0 ↔ n / gcdZ t n ∣ j := by
  obtain ⟨m, hm⟩ := gcdZ_dr t n
  obtain ⟨a, ha⟩ := gcdZ_dl t n
  obtain ⟨s, k, hk⟩ := bez t hn
  have g1 := gcdZ_pos (t := t) hn
  have e1 : n / gcdZ t n = m := by
    have : (gcdZ t n * m) / gcdZ t n = m := Int.mul_ediv_cancel_left _ (by omega)
    rw [← hm] at this
    exact this
  rw [e1]
  generalize gcdZ t n = g at *
  constructor
  · intro h
    obtain ⟨w, hw⟩ := Int.dvd_of_emod_eq_zero h
    -- g j = j t s - j n k
    refine ⟨w * s - j * k, ?_⟩
    apply Int.eq_of_mul_eq_mul_left (show g ≠ 0 by omega)
    have : g * j = j * t * s - j * (t * s - g) := by grind
    rw [this, hw, hk, hm]
    grind
  · rintro ⟨w, hw⟩
    apply Int.emod_eq_zero_of_dvd
    refine ⟨w * a, ?_⟩
    rw [hw, ha, hm]
    grind
theorem lin_none {b L n : Int} (hL : L % gcdZ b n ≠ 0) (k : Int) : (b * k - L) % n ≠ 0 := by
  intro h
  apply hL
  have h1 := Int.dvd_of_emod_eq_zero h
  have h2 : gcdZ b n ∣ b * k - L := Int.dvd_trans (gcdZ_dr b n) h1
  have h3 : gcdZ b n ∣ b * k := Int.dvd_mul_of_dvd_left (gcdZ_dl b n)
  have h4 : gcdZ b n ∣ L := by
    have := Int.dvd_sub h3 h2
    have e : b * k - (b * k - L) = L := by omega
    rw [e] at this
    exact this
  exact Int.emod_eq_zero_of_dvd h4
theorem lin_iff {b L n x : Int} (hn : 1 ≤ n) (x0 : 0 ≤ x) (x1 : x < n / gcdZ b n) (hx : (b * x - L) % n = 0) (k : Int) : (b * k - L) % n = 0 ↔ k % (n / gcdZ b n) = x := by
  have e1 : (b * k - L) % n = 0 ↔ ((k - x) * b) % n = 0 := by
    have d1 := Int.dvd_of_emod_eq_zero hx
    constructor
    · intro h
      have d2 := Int.dvd_sub (Int.dvd_of_emod_eq_zero h) d1
      have e : b * k - L - (b * x - L) = (k - x) * b := by grind
      rw [e] at d2
      exact Int.emod_eq_zero_of_dvd d2
    · intro h
      have d2 := Int.dvd_add (Int.dvd_of_emod_eq_zero h) d1
      have e : (k - x) * b + (b * x - L) = b * k - L := by grind
      rw [e] at d2
      exact Int.emod_eq_zero_of_dvd d2
  rw [e1, timesZ hn]
  constructor
  · rintro ⟨w, hw⟩
    have : k = x + n / gcdZ b n * w := by omega
    rw [this, Int.add_mul_emod_self_left, Int.emod_eq_of_lt x0 x1]
  · intro h
    have := Int.emod_add_mul_ediv k (n / gcdZ b n)
    exact ⟨k / (n / gcdZ b n), by omega⟩
theorem lin_ex {b L n : Int} (hn : 1 ≤ n) (hL : L % gcdZ b n = 0) : ∃ x, 0 ≤ x ∧ x < n / gcdZ b n ∧ (b * x - L) % n = 0 := by
  obtain ⟨t, ht⟩ := bez b hn
  have g1 := gcdZ_pos (t := b) hn
  have m1 : 1 ≤ n / gcdZ b n := by
    rw [Int.le_ediv_iff_mul_le (by omega)]
    have := gcdZ_le (t := b) hn
    omega
  exact ⟨_, Int.emod_nonneg _ (by omega), Int.emod_lt_of_pos _ (by omega), sol_ok hn hL ht⟩
theorem lin_one {b L n x y : Int} (hn : 1 ≤ n) (x0 : 0 ≤ x) (x1 : x < n / gcdZ b n) (hx : (b * x - L) % n = 0) (y0 : 0 ≤ y) (y1 : y < n / gcdZ b n) (hy : (b * y - L) % n = 0) : y = x := by
  have := (lin_iff hn x0 x1 hx y).mp hy
  rw [Int.emod_eq_of_lt y0 y1] at this
  exact this
theorem filter_one (m x : Nat) (p : Nat → Bool) (hp : ∀ k, k < m → (p k = true ↔ k = x)) : (List.range m).filter p = if x < m then [x] else [] := by
  induction m with
  | zero => simp
  | succ m ih =>
    rw [List.range_succ, List.filter_append, ih (fun k hk => hp k (by omega))]
    by_cases e : m = x
    · subst e
      have : p m = true := (hp m (by omega)).mpr rfl
      simp [this]
    · have : p m = false := by
        cases h : p m
        · rfl
        · exact absurd ((hp m (by omega)).mp h) e
      rw [List.filter_cons, this]
      simp only [List.filter_nil, Bool.false_eq_true, if_false, List.append_nil]
      by_cases h : x < m
      · rw [if_pos h, if_pos (by omega)]
      · rw [if_neg h, if_neg (by omega)]
theorem filter_prog (m x : Nat) (hx : x < m) (p : Nat → Bool) (hp : ∀ k, p k = true ↔ k % m = x) : ∀ g : Nat, (List.range (g * m)).filter p = (List.range g).map fun i => x + i * m
  | 0 => by simp
  | g + 1 => by
    rw [Nat.succ_mul, List.range_add, List.filter_append, filter_prog m x hx p hp g, List.range_succ, List.map_append, List.filter_map]
    congr 1
    rw [filter_one m x _ (fun k hk => by
      show p (g * m + k) = true ↔ k = x
      rw [hp, Nat.add_comm, Nat.add_mul_mod_self_right, Nat.mod_eq_of_lt hk])]
    rw [if_pos hx]
    simp [Nat.add_comm]
end L3

/-! ### slices of lists -/
namespace L3
open PySem L2 PyProof.Rows
section
variable {K : PySem.W.Frag} {σ : L2.St} {H : Hp} {Q : VK} {a : Addr} {te t : TE} {tl th : TO} {r : V → Option Int → Option Int → Hp → VK → Prop} {xs ys : List V} {lo hi : Option Int} {i : Int}
theorem g_sl (h : te σ H fun x H1 => tl σ H1 fun l H2 => th σ H2 fun u H3 => r x l u H3 Q) : tSl r te tl th σ H Q := h
def PartR (x : V) (H : Hp) (Q : Option Int → Hp → Prop) : Prop := ∃ i, x = .int i ∧ Q (some i) H
theorem g_part {Q : Option Int → Hp → Prop} (h : t σ H fun x H1 => PartR x H1 Q) : tPart t σ H Q := h
theorem part_at {Q : Option Int → Hp → Prop} (h : Q (some i) H) : PartR (.int i) H Q := ⟨i, rfl, h⟩
theorem g_nopart {Q : Option Int → Hp → Prop} (h : Q none H) : tNoPart σ H Q := h
theorem sl_at (h1 : H a = some (.lst xs)) (e : cutV xs lo hi = ys) (k : ∀ p H', Fr H p → Same H H' → H' p = some (.lst ys) → Q (.ref p) H') : rSlL K (.ref a) lo hi H Q := ⟨a, xs, rfl, SqL.of h1, fun p hp => k p _ ⟨hp⟩ (same_upd hp) (by rw [e]; exact upd_same)⟩
end
end L3

/-! ### tuples, also of the written part -/
namespace L3
open PySem L2 PyProof.Rows
section
variable {K : PySem.W.Frag} {σ : L2.St} {H H' : Hp} {a : Addr} {xs : List V} {nx : L2.St → Hp → Prop}
theorem sqt_same (h : SqT K H a xs) (s : Same H H') : SqT K H' a xs := by
  rcases h with h | h
  · rcases h with h | h
    · exact .inl (.inl (s _ _ h))
    · obtain ⟨o, h⟩ := h; exact .inl (.inr ⟨o, s _ _ h⟩)
  · exact .inr h
theorem g_gtupq {n : Nat} {t : TGs} (h1 : SqT K H a xs) (hl : xs.length = n) (h : t xs σ H nx) : gTup K n t (.ref a) σ H nx := ⟨a, xs, rfl, h1, hl, h⟩
/-- a written tuple of two ints -/
theorem sqt_two {p q : Int} {u0 u1 : Tok} {m : Nat} (hl : K.lookup a = some ⟨.type "tuple", none, .seq #[.int p u0, .int q u1] m, #[]⟩) : SqT K H a [.int p, .int q] :=
  .inr ⟨_, _, _, hl, rfl, rfl, by show 2 ≤ sizeLine; decide, .cons ⟨u0, rfl⟩ (.cons ⟨u1, rfl⟩ .nil)⟩
end
end L3

set_option Elab.async false
set_option linter.all false
set_option maxRecDepth 100000
set_option maxHeartbeats 2000000
/-! Comprehensions whose items change tracked lists; the eight turns. -/
namespace L3
open PySem L2 PyProof.Rows
section
variable {K : PySem.W.Frag} {H : Hp} {Q : VK} {g : TG} {tt : TT} {te : TE} {vs : List Nat} {σ : L2.St} {x y : V}
theorem lcr1_acc {j : Int} (Pv : Nat → List V → Hp → Prop) (b1 : -(2 ^ 62) ≤ j) (hz : j ≤ 100000) (h0 : Pv 0 [] H)
    (fr : ∀ D, H D = none → ∀ i acc H1 H2, SB D H1 H2 → Pv i acc H1 → Pv i acc H2)
    (hs : ∀ (i : Nat) acc H1, (i : Int) < j → acc.length = i → Pv i acc H1 → ∀ Z : Option V → Hp → Prop, (∀ y H4, (∀ a u, H a = none → H1 a = some u → H4 a = some u) → Pv (i + 1) (acc ++ [y]) H4 → Z (some y) H4) → LcT g tt te vs σ (.int i) H1 Z)
    (k : ∀ D acc H', Fr H D → acc.length = j.toNat → Pv j.toNat acc H' → H' D = some (.lst acc) → Q (.ref D) H') : LcR1 g tt te vs σ [.int j] H Q := by
  refine ⟨j, rfl, b1, by omega, fun D hD => lc_range (fun i H' => ∃ acc, acc.length = i ∧ i ≤ j.toNat ∧ Pv i acc H' ∧ H' D = some (.lst acc)) ⟨[], rfl, Nat.zero_le _, fr D hD _ _ _ _ sb_upd h0, upd_same⟩ ?_ ?_⟩
  · rintro i H1 lt ⟨acc, al, il, pv, eD⟩
    rw [Int.zero_add]
    refine hs i acc H1 (by omega) al pv (fun o H4 => match o with
      | some y => ∃ ac, H4 D = some (.lst ac) ∧ ac.length < sizeLine ∧ ∃ acc', acc'.length = i + 1 ∧ i + 1 ≤ j.toNat ∧ Pv (i + 1) acc' (upd H4 D (.lst (ac ++ [y]))) ∧ (upd H4 D (.lst (ac ++ [y]))) D = some (.lst acc')
      | none => ∃ acc', acc'.length = i + 1 ∧ i + 1 ≤ j.toNat ∧ Pv (i + 1) acc' H4 ∧ H4 D = some (.lst acc')) fun y H4 keep pv4 => ?_
    refine ⟨acc, keep D _ hD eD, ?_, acc ++ [y], by rw [List.length_append, al]; rfl, lt, fr D hD _ _ _ _ sb_upd pv4, upd_same⟩
    rw [al]
    exact Nat.lt_of_le_of_lt (by omega : _ ≤ 100000) (by decide)
  · rintro H1 ⟨acc, al, _, pv, eD⟩
    exact k D acc H1 ⟨hD⟩ al pv eD
theorem o_eqde {d e : PyData} (h1 : Dp K H x d) (h2 : Dp K H y e) (s1 : SeqAt.shaped d = true) (s2 : SeqAt.shaped e = true) (h : Q (.bl (PyData.eqv d e)) H) : rEqD K x y H Q := ⟨d, e, h1, h2, s1, s2, h⟩
end
/-! ### the eight turns -/
def wp (g : Fin 8) : Int := [1, 0, -1, 0, -1, 1, 0, 0].getD g.val 0
def wq (g : Fin 8) : Int := [0, -1, 0, 1, 0, 0, 1, -1].getD g.val 0
def ws (g : Fin 8) : Int := [0, 1, 0, -1, 0, 0, 1, -1].getD g.val 0
def wt (g : Fin 8) : Int := [1, 0, -1, 0, 1, -1, 0, 0].getD g.val 0
def we (g : Fin 8) : Int := [0, 1, 1, 0, 1, 0, 0, 1].getD g.val 0
def wf (g : Fin 8) : Int := [0, 0, 1, 1, 0, 1, 0, 1].getD g.val 0
def wd (g : Fin 8) : Str := ["same", "quarter", "half", "back", "flip", "mirror", "cross", "anti"].getD g.val "same"
def mulT : List (List (Fin 8)) := [[0, 1, 2, 3, 4, 5, 6, 7], [1, 2, 3, 0, 7, 6, 4, 5], [2, 3, 0, 1, 5, 4, 7, 6], [3, 0, 1, 2, 6, 7, 5, 4], [4, 6, 5, 7, 0, 2, 1, 3], [5, 7, 4, 6, 2, 0, 3, 1], [6, 5, 7, 4, 3, 1, 0, 2], [7, 4, 6, 5, 1, 3, 2, 0]]
def mul8 (g h : Fin 8) : Fin 8 := (mulT.getD g.val []).getD h.val 0
theorem wp_0 : wp 0 = 1 := rfl
theorem wp_1 : wp 1 = 0 := rfl
theorem wp_2 : wp 2 = -1 := rfl
theorem wp_3 : wp 3 = 0 := rfl
theorem wp_4 : wp 4 = -1 := rfl
theorem wp_5 : wp 5 = 1 := rfl
theorem wp_6 : wp 6 = 0 := rfl
theorem wp_7 : wp 7 = 0 := rfl
theorem wq_0 : wq 0 = 0 := rfl
theorem wq_1 : wq 1 = -1 := rfl
theorem wq_2 : wq 2 = 0 := rfl
theorem wq_3 : wq 3 = 1 := rfl
theorem wq_4 : wq 4 = 0 := rfl
theorem wq_5 : wq 5 = 0 := rfl
theorem wq_6 : wq 6 = 1 := rfl
theorem wq_7 : wq 7 = -1 := rfl
theorem ws_0 : ws 0 = 0 := rfl
theorem ws_1 : ws 1 = 1 := rfl
theorem ws_2 : ws 2 = 0 := rfl
theorem ws_3 : ws 3 = -1 := rfl
theorem ws_4 : ws 4 = 0 := rfl
theorem ws_5 : ws 5 = 0 := rfl
theorem ws_6 : ws 6 = 1 := rfl
theorem ws_7 : ws 7 = -1 := rfl
theorem wt_0 : wt 0 = 1 := rfl
theorem wt_1 : wt 1 = 0 := rfl
theorem wt_2 : wt 2 = -1 := rfl
theorem wt_3 : wt 3 = 0 := rfl
theorem wt_4 : wt 4 = 1 := rfl
theorem wt_5 : wt 5 = -1 := rfl
theorem wt_6 : wt 6 = 0 := rfl
theorem wt_7 : wt 7 = 0 := rfl
theorem we_0 : we 0 = 0 := rfl
theorem we_1 : we 1 = 1 := rfl
theorem we_2 : we 2 = 1 := rfl
theorem we_3 : we 3 = 0 := rfl
theorem we_4 : we 4 = 1 := rfl
theorem we_5 : we 5 = 0 := rfl
theorem we_6 : we 6 = 0 := rfl
theorem we_7 : we 7 = 1 := rfl
theorem wf_0 : wf 0 = 0 := rfl
theorem wf_1 : wf 1 = 0 := rfl
theorem wf_2 : wf 2 = 1 := rfl
theorem wf_3 : wf 3 = 1 := rfl
theorem wf_4 : wf 4 = 0 := rfl
theorem wf_5 : wf 5 = 1 := rfl
theorem wf_6 : wf 6 = 0 := rfl
theorem wf_7 : wf 7 = 1 := rfl
theorem mul_p : ∀ g h, wp (mul8 g h) = wp g * wp h + wq g * ws h := by decide
theorem mul_q : ∀ g h, wq (mul8 g h) = wp g * wq h + wq g * wt h := by decide
theorem mul_s : ∀ g h, ws (mul8 g h) = ws g * wp h + wt g * ws h := by decide
theorem mul_t : ∀ g h, wt (mul8 g h) = ws g * wq h + wt g * wt h := by decide
theorem mul_e : ∀ g h, we (mul8 g h) = we g + we h * wp g + wf h * wq g := by decide
theorem mul_f : ∀ g h, wf (mul8 g h) = wf g + we h * ws g + wf h * wt g := by decide
theorem mul_assoc8 : ∀ g h k, mul8 (mul8 g h) k = mul8 g (mul8 h k) := by decide
theorem mul_one8 : ∀ g, mul8 g 0 = g := by decide
theorem one_mul8 : ∀ g, mul8 0 g = g := by decide
/-- the numbers of a turned rule -/
@[irreducible] def RA (g : Fin 8) (a b : Int) : Int := a * wp g + b * ws g
@[irreducible] def RB (g : Fin 8) (a b : Int) : Int := a * wq g + b * wt g
@[irreducible] def RD (g : Fin 8) (a b d : Int) : Int := d - we g * a - wf g * b
/-- where a turned cell comes from -/
@[irreducible] def WR (g : Fin 8) (n r c : Int) : Int := wp g * r + wq g * c + we g * (n - 1)
@[irreducible] def WC (g : Fin 8) (n r c : Int) : Int := ws g * r + wt g * c + wf g * (n - 1)
theorem ra_mul {g h : Fin 8} {a b : Int} : RA h (RA g a b) (RB g a b) = RA (mul8 g h) a b := by unfold RA RB; rw [mul_p, mul_s]; grind
theorem rb_mul {g h : Fin 8} {a b : Int} : RB h (RA g a b) (RB g a b) = RB (mul8 g h) a b := by unfold RB RA; rw [mul_q, mul_t]; grind
theorem rd_mul {g h : Fin 8} {a b d : Int} : RD h (RA g a b) (RB g a b) (RD g a b d) = RD (mul8 g h) a b d := by unfold RD RA RB; rw [mul_e, mul_f]; grind
theorem cr_mul {g h : Fin 8} {n r c : Int} : WR g n (WR h n r c) (WC h n r c) = WR (mul8 g h) n r c := by unfold WR WC; rw [mul_p, mul_q, mul_e]; grind
theorem cc_mul {g h : Fin 8} {n r c : Int} : WC g n (WR h n r c) (WC h n r c) = WC (mul8 g h) n r c := by unfold WC WR; rw [mul_s, mul_t, mul_f]; grind
theorem turn_sign {g : Fin 8} {a b d n x y : Int} : (RA g a b * x + RB g a b * y + RD g a b d) % n = (a * WR g n x y + b * WC g n x y + d) % n := by
  have e : a * WR g n x y + b * WC g n x y + d = RA g a b * x + RB g a b * y + RD g a b d + n * (we g * a + wf g * b) := by unfold RA RB RD WR WC; grind
  rw [e, Int.add_mul_emod_self_left]
def act (gs : List (Fin 8)) : Fin 8 := gs.foldl mul8 0
theorem act_go (gs : List (Fin 8)) : ∀ g, gs.foldl mul8 g = mul8 g (act gs) := by
  induction gs with
  | nil => intro g; exact (mul_one8 g).symm
  | cons h gs ih =>
    intro g
    show gs.foldl mul8 (mul8 g h) = mul8 g (gs.foldl mul8 (mul8 0 h))
    rw [ih, one_mul8, ih h, mul_assoc8]
theorem act_cons (g : Fin 8) (gs : List (Fin 8)) : act (g :: gs) = mul8 g (act gs) := by
  show gs.foldl mul8 (mul8 0 g) = _
  rw [act_go, one_mul8]
theorem act_snoc (gs : List (Fin 8)) (g : Fin 8) : act (gs ++ [g]) = mul8 (act gs) g := by
  unfold act
  rw [List.foldl_append]
  rfl
theorem fin8 (g : Fin 8) : g = 0 ∨ g = 1 ∨ g = 2 ∨ g = 3 ∨ g = 4 ∨ g = 5 ∨ g = 6 ∨ g = 7 := by revert g; decide
theorem WR_in {g : Fin 8} {n r c : Int} (h : 0 ≤ r ∧ r < n ∧ 0 ≤ c ∧ c < n) : 0 ≤ WR g n r c ∧ WR g n r c < n := by
  unfold WR
  rcases fin8 g with rfl | rfl | rfl | rfl | rfl | rfl | rfl | rfl <;> simp only [wp_0, wp_1, wp_2, wp_3, wp_4, wp_5, wp_6, wp_7, wq_0, wq_1, wq_2, wq_3, wq_4, wq_5, wq_6, wq_7, we_0, we_1, we_2, we_3, we_4, we_5, we_6, we_7] <;> omega
theorem WC_in {g : Fin 8} {n r c : Int} (h : 0 ≤ r ∧ r < n ∧ 0 ≤ c ∧ c < n) : 0 ≤ WC g n r c ∧ WC g n r c < n := by
  unfold WC
  rcases fin8 g with rfl | rfl | rfl | rfl | rfl | rfl | rfl | rfl <;> simp only [ws_0, ws_1, ws_2, ws_3, ws_4, ws_5, ws_6, ws_7, wt_0, wt_1, wt_2, wt_3, wt_4, wt_5, wt_6, wt_7, wf_0, wf_1, wf_2, wf_3, wf_4, wf_5, wf_6, wf_7] <;> omega
theorem RA_0 (a b : Int) : RA 0 a b = a := by unfold RA; simp only [wp_0, ws_0]; omega
theorem RB_0 (a b : Int) : RB 0 a b = b := by unfold RB; simp only [wq_0, wt_0]; omega
theorem RD_0 (a b d : Int) : RD 0 a b d = d := by unfold RD; simp only [we_0, wf_0]; omega
theorem RA_bd {g : Fin 8} {a b m : Int} (ha : -m ≤ a ∧ a ≤ m) (hb : -m ≤ b ∧ b ≤ m) : -m ≤ RA g a b ∧ RA g a b ≤ m := by
  unfold RA
  rcases fin8 g with rfl | rfl | rfl | rfl | rfl | rfl | rfl | rfl <;> simp only [wp_0, wp_1, wp_2, wp_3, wp_4, wp_5, wp_6, wp_7, ws_0, ws_1, ws_2, ws_3, ws_4, ws_5, ws_6, ws_7] <;> omega
theorem RB_bd {g : Fin 8} {a b m : Int} (ha : -m ≤ a ∧ a ≤ m) (hb : -m ≤ b ∧ b ≤ m) : -m ≤ RB g a b ∧ RB g a b ≤ m := by
  unfold RB
  rcases fin8 g with rfl | rfl | rfl | rfl | rfl | rfl | rfl | rfl <;> simp only [wq_0, wq_1, wq_2, wq_3, wq_4, wq_5, wq_6, wq_7, wt_0, wt_1, wt_2, wt_3, wt_4, wt_5, wt_6, wt_7] <;> omega
/-- two cells of size 3 tell the turn -/
def cdat (g : Fin 8) : PyData := .list [.tuple [.int (WR g 3 0 0), .int (WC g 3 0 0)], .tuple [.int (WR g 3 0 1), .int (WC g 3 0 1)]]
end L3

set_option Elab.async false
set_option linter.all false
set_option maxRecDepth 100000
set_option maxHeartbeats 2000000
/-! zip in comprehensions, lcm, integers that return in equal distances. -/
namespace L3
open PySem L2 PyProof.Rows
/-! ### lcm -/
def lcmZ (i j : Int) : Int := ((Nat.lcm i.natAbs j.natAbs : Nat) : Int)
def rLcm : List V → Hp → VK → Prop := fun vs H Q => ∃ a b : Int, vs = [.int a, .int b] ∧ Sz 9000 a ∧ Sz 9000 b ∧ Q (.int (lcmZ a b)) H
theorem log_small {n : Nat} (h : n < 2 ^ 9000) : ¬ n.log2 / 30 + 1 > 450 := by
  have : n.log2 ≤ 8999 := by
    by_cases h0 : n = 0
    · subst h0; rw [Nat.log2_zero]; omega
    · exact Nat.le_of_lt_succ ((Nat.log2_lt h0).mpr h)
  omega
theorem cr_lcm {X : Cx} : CallR X (.builtin "math.lcm") rLcm := by
  intro pins s σ H vs us Q I r h
  obtain ⟨a, b, rfl, sa, sb, q⟩ := h
  obtain ⟨t, u, rfl⟩ := Vals.int2 r
  have e1 : max 1 a.natAbs < 2 ^ 9000 := by
    have : 1 < 2 ^ 9000 := Nat.one_lt_two_pow (by decide)
    unfold Sz at sa
    exact Nat.max_lt.mpr ⟨this, sa⟩
  have e2 : max a.natAbs b.natAbs < 2 ^ 9000 := Nat.max_lt.mpr ⟨sa, sb⟩
  have e3 : Nat.lcm 1 a.natAbs = a.natAbs := Nat.lcm_one_left _
  have e4 : (((Nat.lcm 1 a.natAbs).lcm b.natAbs : Nat) : Int) = lcmZ a b := by rw [e3]; rfl
  have hsz : ((((Nat.lcm 1 a.natAbs).lcm b.natAbs : Nat) : Int)).natAbs.log2 < bitsLine := by
    rw [Int.natAbs_natCast, e3]
    have le : a.natAbs.lcm b.natAbs ≤ a.natAbs * b.natAbs := Nat.div_le_self _ _
    have lt : a.natAbs * b.natAbs < 2 ^ (9000 + 9000) := by rw [Nat.pow_add]; exact Nat.mul_lt_mul'' sa sb
    generalize a.natAbs.lcm b.natAbs = L at *
    by_cases h0 : L = 0
    · subst h0; rw [Nat.log2_zero]; decide
    · have := (Nat.log2_lt h0).mpr (Nat.lt_of_le_of_lt le lt)
      exact Nat.lt_of_lt_of_le this (by decide)
  refine PySem.call_function_meets PySem.W.MGF.kind_lcm PySem.W.MGF.plain_lcm PySem.W.MGF.entry_lcm (PySem.W.MGF.args_lcm _ _) (PySem.W.mg_run_lcm a t b u (log_small e1) (log_small e2) hsz).meets ?_
  rw [e4]
  exact ⟨.int _, H, I.tok _, ⟨_, rfl⟩, q⟩
theorem b_lcm {H : Hp} {Q : VK} {i j : Int} (si : Sz 9000 i) (sj : Sz 9000 j) (h : Q (.int (lcmZ i j)) H) : rLcm [.int i, .int j] H Q := ⟨i, j, rfl, si, sj, h⟩
/-! ### divmod -/
def rDm : List V → Hp → VK → Prop := fun xs H Q => ∃ i j, xs = [.int i, .int j] ∧ CDivP i j ∧ ∀ p, H p = none → Q (.ref p) (upd H p (.tup [.int (i / j), .int (i % j)]))
theorem c_dm {X : Cx} : CallR X (.builtin "divmod") rDm := call_divmodW
theorem b_divmod {H : Hp} {Q : VK} {i j : Int} (hj : 0 < j) (hi : Sz 4000 i) (k : ∀ p H', Fr H p → Same H H' → H' p = some (.tup [.int (i / j), .int (i % j)]) → Q (.ref p) H') : rDm [.int i, .int j] H Q :=
  ⟨i, j, rfl, divp_ok hj (Nat.le_trans (intBits_le hi) (Nat.le_add_left _ _)), fun p hp => k p _ ⟨hp⟩ (same_upd hp) upd_same⟩
/-! ### zip -/
section
variable {K : PySem.W.Frag} {H : Hp} {Q : VK} {g : TG} {tt : TT} {te : TE} {ta : TA} {vs : List Nat} {σ : L2.St} {a b : Addr} {xs ys : List V}
theorem pi_zipK {X : Cx} {e e2 : Expr} {p pos tpos : Pos} {elts : List Expr} {kk : Nat} (hK : X.K = K) (hg : Gl X "zip") (hm : X.mg "zip" = none) (ha : PA X [e, e2] ta)
    (hs : starEach [e, e2] X.env = (false, eval e X.env) :: starEach [e2] X.env := by rfl) (hpl : (backTo pos (starEach [e2] X.env)).any (·.1) = false := by rfl) :
    PI X (.Tuple elts kk tpos) (.Call (.Name "zip" p) [e, e2] [] pos) (iZip K ta) := by subst hK; exact pi_zip hg hm ha hs hpl
def LcZ (K : PySem.W.Frag) (g : TG) (tt : TT) (te : TE) (vs : List Nat) (σ : L2.St) (us : List V) (H1 : Hp) (Q : VK) : Prop := ∃ a b xs ys, us = [.ref a, .ref b] ∧ SqL K H1 a xs ∧ SqL K H1 b ys ∧ ∀ D, H1 D = none → ∃ W : Nat → Nat → Hp → Prop, (∃ m, W 0 m (upd H1 D (.lst []))) ∧ ∀ i m H, W i m H →
  ((Itz K a b).stop i H ∧ Q (.ref D) H) ∨ ((Itz K a b).go i H ∧ ∃ Nx : Hp → Prop, (∀ H', Nx H' → ∃ m', m' < m ∧ W (i + 1) m' H') ∧ ∀ x H', (Itz K a b).yld i H x H' → g x (wipe σ vs) H' fun σ2 H2 => wipe σ2 vs = wipe σ vs ∧ tt σ2 H2 fun b H3 =>
    if b = true then te σ2 H3 fun y H4 => ∃ acc, H4 D = some (.lst acc) ∧ acc.length < sizeLine ∧ Nx (upd H4 D (.lst (acc ++ [y]))) else Nx H3)
theorem g_lcz (h : ta σ H fun us H1 => LcZ K g tt te vs σ us H1 Q) : tLc (iZip K ta) g tt te vs σ H Q := h
theorem lcz_fun (F : Nat → V) (h1 : H a = some (.lst xs)) (h2 : H b = some (.lst ys)) (hl : xs.length = ys.length) (hz : xs.length ≤ 100000)
    (hs : ∀ (i : Nat) x y, xs[i]? = some x → ys[i]? = some y → ∀ T H1, Same H H1 → H1 T = some (.tup [x, y]) → ∀ R : Option V → Hp → Prop, (∀ H2, Same H1 H2 → R (some (F i)) H2) → LcT g tt te vs σ (.ref T) H1 R)
    (k : ∀ D H', Fr H D → Same H H' → H' D = some (.lst ((List.range xs.length).map F)) → Q (.ref D) H') : LcZ K g tt te vs σ [.ref a, .ref b] H Q := by
  refine ⟨a, b, xs, ys, rfl, SqL.of h1, SqL.of h2, fun D hD => lc_it (walk_zip (xs := xs) (ys := ys) (n := xs.length) (by omega)) (fun i H' => i ≤ xs.length ∧ Same H H' ∧ H' D = some (.lst ((List.range i).map F))) ⟨Nat.zero_le _, same_upd hD, upd_same⟩ (fun i H' _ q => ⟨SqL.of (q.2.1 _ _ h1), SqL.of (q.2.1 _ _ h2)⟩) ?_ ?_⟩
  · rintro i v H0 H1 hi ⟨_, sH, eD⟩ ⟨T, x, y, rfl, hT, rfl, hx, hy⟩
    have sT : Same H0 (upd H0 T (.tup [x, y])) := same_upd hT
    refine hs i x y hx hy T _ (sH.trans sT) upd_same (fun o H4 => match o with
      | some y => ∃ acc, H4 D = some (.lst acc) ∧ acc.length < sizeLine ∧ (i + 1 ≤ xs.length ∧ Same H (upd H4 D (.lst (acc ++ [y]))) ∧ (upd H4 D (.lst (acc ++ [y]))) D = some (.lst ((List.range (i + 1)).map F)))
      | none => i + 1 ≤ xs.length ∧ Same H H4 ∧ H4 D = some (.lst ((List.range (i + 1)).map F))) fun H2 s2 => ?_
    refine ⟨(List.range i).map F, s2 _ _ (sT _ _ eD), ?_, hi, fun c o e => ?_, ?_⟩
    · rw [List.length_map, List.length_range]
      exact Nat.lt_of_le_of_lt (by omega : _ ≤ 100000) (by decide)
    · rw [upd_ne (ne_of_none e hD)]
      exact s2 _ _ (sT _ _ (sH _ _ e))
    · rw [upd_same, List.range_succ, List.map_append]; rfl
  · rintro H1 ⟨_, sH, eD⟩
    exact k D H1 ⟨hD⟩ sH eD
end
section
variable {H H2 : Hp} {g : TG} {tt : TT} {te : TE} {vs : List Nat} {σ σ' σ2 : L2.St} {x : V} {R : Option V → Hp → Prop}
def LctR (tt : TT) (te : TE) (vs : List Nat) (σ : L2.St) (R : Option V → Hp → Prop) (σ2 : L2.St) (H2 : Hp) : Prop := wipe σ2 vs = wipe σ vs ∧ tt σ2 H2 fun b H3 => LcE R te b σ2 H3
theorem g_lctt (e : wipe σ vs = σ') (h : g x σ' H fun σ2 H2 => LctR tt te vs σ R σ2 H2) : LcT g tt te vs σ x H R := by
  subst e
  exact h
theorem lctr (e : wipe σ2 vs = wipe σ vs) (h : tt σ2 H2 fun b H3 => LcE R te b σ2 H3) : LctR tt te vs σ R σ2 H2 := ⟨e, h⟩
end
/-! ### integers in equal distances -/
def Prg (n : Int) (H : Hp) (v : V) (P : Int → Prop) : Prop := (v = .non ∧ ∀ x, ¬ P x) ∨ ∃ q f m, v = .ref q ∧ H q = some (.tup [.int f, .int m]) ∧ 1 ≤ m ∧ m ∣ n ∧ 0 ≤ f ∧ f < m ∧ ∀ x, P x ↔ x % m = f
theorem Prg.same {n : Int} {H H' : Hp} {v : V} {P : Int → Prop} (h : Prg n H v P) (s : Same H H') : Prg n H' v P := by
  rcases h with h | ⟨q, f, m, e, h, r⟩
  · exact .inl h
  · exact .inr ⟨q, f, m, e, s _ _ h, r⟩
theorem Prg.iff {n : Int} {H : Hp} {v : V} {P P' : Int → Prop} (h : Prg n H v P) (e : ∀ x, P' x ↔ P x) : Prg n H v P' := by
  rcases h with ⟨h, z⟩ | ⟨q, f, m, h1, h2, h3, h4, h5, h6, h7⟩
  · exact .inl ⟨h, fun x y => z x ((e x).mp y)⟩
  · exact .inr ⟨q, f, m, h1, h2, h3, h4, h5, h6, fun x => (e x).trans (h7 x)⟩
theorem Prg.of {n k : Int} {H : Hp} {v : V} {P : Int → Prop} (h : Prg k H v P) (d : k ∣ n) : Prg n H v P := by
  rcases h with h | ⟨q, f, m, h1, h2, h3, h4, r⟩
  · exact .inl h
  · exact .inr ⟨q, f, m, h1, h2, h3, Int.dvd_trans h4 d, r⟩
theorem quo_pos {n t : Int} (hn : 1 ≤ n) : 1 ≤ n / gcdZ t n ∧ n / gcdZ t n ∣ n ∧ n = gcdZ t n * (n / gcdZ t n) := by
  obtain ⟨m, hm⟩ := gcdZ_dr t n
  have g1 := gcdZ_pos (t := t) hn
  have e1 : n / gcdZ t n = m := by
    have : (gcdZ t n * m) / gcdZ t n = m := Int.mul_ediv_cancel_left _ (by omega)
    rw [← hm] at this
    exact this
  rw [e1]
  refine ⟨?_, ⟨gcdZ t n, by rw [Int.mul_comm]; exact hm⟩, hm⟩
  apply Classical.byContradiction
  intro z
  have : gcdZ t n * m ≤ 0 := Int.mul_nonpos_of_nonneg_of_nonpos (by omega) (by omega)
  omega
theorem lcm_quo {a b : Int} (ha : 1 ≤ a) (hb : 1 ≤ b) : lcmZ a b = a * (b / gcdZ a b) := by
  have g0 : 0 < Nat.gcd a.natAbs b.natAbs := Nat.gcd_pos_of_pos_right _ (by omega)
  have e : b / gcdZ a b = ((b.natAbs / Nat.gcd a.natAbs b.natAbs : Nat) : Int) := by
    unfold gcdZ
    rw [Int.natCast_ediv, Int.natAbs_of_nonneg (by omega)]
  rw [e]
  unfold lcmZ Nat.lcm
  rw [Nat.mul_div_assoc _ (Nat.gcd_dvd_right _ _), Int.natCast_mul, Int.natAbs_of_nonneg (by omega)]
theorem mod_iff {x m f : Int} (hm : 1 ≤ m) (f0 : 0 ≤ f) (f1 : f < m) : x % m = f ↔ m ∣ x - f := by
  constructor
  · intro h
    have := Int.emod_add_mul_ediv x m
    exact ⟨x / m, by omega⟩
  · rintro ⟨w, hw⟩
    have : x = f + m * w := by omega
    rw [this, Int.add_mul_emod_self_left, Int.emod_eq_of_lt f0 f1]
/-- what both of two tell -/
theorem met_iff {f1 m1 f2 m2 t x : Int} (h1 : 1 ≤ m1) (h2 : 1 ≤ m2) (a0 : 0 ≤ f1) (a1 : f1 < m1) (b0 : 0 ≤ f2) (b1 : f2 < m2) (t0 : 0 ≤ t) (t1 : t < m2 / gcdZ m1 m2) (ht : (m1 * t - (f2 - f1)) % m2 = 0) :
    (x % m1 = f1 ∧ x % m2 = f2) ↔ x % lcmZ m1 m2 = f1 + m1 * t := by
  obtain ⟨q1, q2, q3⟩ := quo_pos (t := m1) h2
  rw [lcm_quo h1 h2]
  have F0 : 0 ≤ f1 + m1 * t := by have := Int.mul_nonneg (show 0 ≤ m1 by omega) t0; omega
  have F1 : f1 + m1 * t < m1 * (m2 / gcdZ m1 m2) := by
    have : m1 * (t + 1) ≤ m1 * (m2 / gcdZ m1 m2) := Int.mul_le_mul_of_nonneg_left (by omega) (by omega)
    have e : m1 * (t + 1) = m1 * t + m1 := by grind
    omega
  have M1 : 1 ≤ m1 * (m2 / gcdZ m1 m2) := by have := Int.mul_le_mul h1 q1 (by omega) (by omega); omega
  have lin := lin_iff (b := m1) (L := f2 - f1) (n := m2) (x := t) h2 t0 t1 ht
  rw [mod_iff h1 a0 a1, mod_iff h2 b0 b1, mod_iff M1 F0 F1]
  constructor
  · rintro ⟨⟨w, hw⟩, d⟩
    have e : m1 * w - (f2 - f1) = x - f2 := by omega
    have := (lin w).mp (by rw [e]; exact Int.emod_eq_zero_of_dvd d)
    obtain ⟨u, hu⟩ := (mod_iff q1 t0 t1).mp this
    refine ⟨u, ?_⟩
    have e2 : w = t + m2 / gcdZ m1 m2 * u := by omega
    have e3 : x - (f1 + m1 * t) = m1 * w - m1 * t := by omega
    rw [e3, e2]
    grind
  · rintro ⟨u, hu⟩
    have e3 : x - f1 = m1 * (t + m2 / gcdZ m1 m2 * u) := by grind
    refine ⟨⟨_, e3⟩, ?_⟩
    have := (lin (t + m2 / gcdZ m1 m2 * u)).mpr (by rw [Int.add_mul_emod_self_left, Int.emod_eq_of_lt t0 t1])
    have e : m1 * (t + m2 / gcdZ m1 m2 * u) - (f2 - f1) = x - f2 := by omega
    rw [e] at this
    exact Int.dvd_of_emod_eq_zero this
theorem lcm_dvd {a b n : Int} (ha : 1 ≤ a) (hb : 1 ≤ b) (h1 : a ∣ n) (h2 : b ∣ n) : lcmZ a b ∣ n := by
  unfold lcmZ
  rw [← Int.natAbs_dvd_natAbs, Int.natAbs_natCast]
  exact Nat.lcm_dvd (Int.natAbs_dvd_natAbs.mpr h1) (Int.natAbs_dvd_natAbs.mpr h2)
theorem emod_dvq (x n : Int) : ∃ u, x % n = x + n * u := ⟨-(x / n), by have := Int.emod_add_mul_ediv x n; grind⟩
/-- two equations by n -/
def Sys (n a b w a' b' w' r c : Int) : Prop := n ∣ a * r + b * c - w ∧ n ∣ a' * r + b' * c - w'
theorem sys_mod {n a b w a' b' w' r c : Int} : Sys n (a % n) (b % n) (w % n) (a' % n) (b' % n) (w' % n) r c ↔ Sys n a b w a' b' w' r c := by
  have go : ∀ a b w : Int, n ∣ (a % n) * r + (b % n) * c - w % n ↔ n ∣ a * r + b * c - w := by
    intro a b w
    have e : a * r + b * c - w = ((a % n) * r + (b % n) * c - w % n) + n * ((a / n) * r + (b / n) * c - w / n) := by
      have h1 := Int.emod_add_mul_ediv a n
      have h2 := Int.emod_add_mul_ediv b n
      have h3 := Int.emod_add_mul_ediv w n
      grind
    rw [e]
    constructor
    · intro h; exact Int.dvd_add h ⟨_, rfl⟩
    · intro h
      have := Int.dvd_sub h (show n ∣ n * ((a / n) * r + (b / n) * c - w / n) from ⟨_, rfl⟩)
      rw [Int.add_sub_cancel] at this
      exact this
  unfold Sys
  rw [go, go]
theorem sys_step {n a b w a' b' w' r c k : Int} : Sys n a' b' w' ((a - k * a') % n) ((b - k * b') % n) ((w - k * w') % n) r c ↔ Sys n a b w a' b' w' r c := by
  have go : n ∣ ((a - k * a') % n) * r + ((b - k * b') % n) * c - (w - k * w') % n ↔ n ∣ (a - k * a') * r + (b - k * b') * c - (w - k * w') := by
    obtain ⟨x, hx⟩ := emod_dvq (a - k * a') n
    obtain ⟨y, hy⟩ := emod_dvq (b - k * b') n
    obtain ⟨z, hz⟩ := emod_dvq (w - k * w') n
    have e : ((a - k * a') % n) * r + ((b - k * b') % n) * c - (w - k * w') % n = ((a - k * a') * r + (b - k * b') * c - (w - k * w')) + n * (x * r + y * c - z) := by grind
    rw [e]
    constructor
    · intro h
      have := Int.dvd_sub h (show n ∣ n * (x * r + y * c - z) from ⟨_, rfl⟩)
      rw [Int.add_sub_cancel] at this
      exact this
    · intro h; exact Int.dvd_add h ⟨_, rfl⟩
  unfold Sys
  rw [go]
  constructor
  · rintro ⟨h1, h2⟩
    refine ⟨?_, h1⟩
    have e : a * r + b * c - w = ((a - k * a') * r + (b - k * b') * c - (w - k * w')) + k * (a' * r + b' * c - w') := by grind
    rw [e]
    exact Int.dvd_add h2 (Int.dvd_mul_of_dvd_right h1)
  · rintro ⟨h1, h2⟩
    refine ⟨h2, ?_⟩
    have e : (a - k * a') * r + (b - k * b') * c - (w - k * w') = (a * r + b * c - w) - k * (a' * r + b' * c - w') := by grind
    rw [e]
    exact Int.dvd_sub h1 (Int.dvd_mul_of_dvd_right h2)
/-- which rows have such a column, once the lower equation is free of it -/
theorem sys_rows {n a b w a' w' r : Int} (hn : 1 ≤ n) : (∃ c, Sys n a b w a' 0 w' r c) ↔ (a' * r - w') % n = 0 ∧ (a * r - w) % gcdZ b n = 0 := by
  constructor
  · rintro ⟨c, h1, h2⟩
    rw [Int.zero_mul, Int.add_zero] at h2
    refine ⟨Int.emod_eq_zero_of_dvd h2, Int.emod_eq_zero_of_dvd ?_⟩
    have d1 : gcdZ b n ∣ a * r + b * c - w := Int.dvd_trans (gcdZ_dr b n) h1
    have d2 : gcdZ b n ∣ b * c := Int.dvd_mul_of_dvd_left (gcdZ_dl b n)
    have := Int.dvd_sub d1 d2
    have e : a * r + b * c - w - b * c = a * r - w := by omega
    rw [e] at this
    exact this
  · rintro ⟨h1, h2⟩
    have h3 : (w - a * r) % gcdZ b n = 0 := by
      have := Int.dvd_neg.mpr (Int.dvd_of_emod_eq_zero h2)
      have e : -(a * r - w) = w - a * r := by omega
      rw [e] at this
      exact Int.emod_eq_zero_of_dvd this
    obtain ⟨c, _, _, hc⟩ := lin_ex hn h3
    refine ⟨c, ?_, ?_⟩
    · have e : a * r + b * c - w = b * c - (w - a * r) := by omega
      rw [e]; exact Int.dvd_of_emod_eq_zero hc
    · rw [Int.zero_mul, Int.add_zero]; exact Int.dvd_of_emod_eq_zero h1
end L3

set_option Elab.async false
set_option linter.all false
set_option maxRecDepth 100000
set_option maxHeartbeats 2000000
/-! An own __eq__ against a value of another kind; making inside a try; tuples in order. -/
namespace L3
open PySem PySem.Calls PyProof.Rows PySem.W
section
variable {prog : Program} {w : World} {A : Around} {E : Value → Shared → Prop} {s : Shared} {K : PySem.W.Frag} {x C f : Addr} {y tb : Value} {ox : Obj} {od : Option Obj}
theorem ob_neV {Q : Fin → Shared → Prop} (X : K.In s.heap) (I : InstAt s.heap x ox C od) (hs : findIn K (.ref C) "__eq__" = some (some (.ref f))) (hf : isFn K (.ref f) = true) (hu : A.units < cLine)
    (hcall : wpAny (model prog w) A (call (.ref f) [.ref x, y]) (fun v s' => ∃ b, v = .bool b ∧ Q (.done (.ret (.bool (!b)))) s') E s) :
    wpAny (model prog w) A (Builtin.«object.__ne__» ⟨[.ref x, y], []⟩) Q E s := by
  unfold Builtin.«object.__ne__»
  repeat (first
    | with_reducible refine wpAny_cRoomFor hu ?_
    | (refine wpAny_bind (m := callSpecialIfBound? (.ref x) (PySem.Str.ofString "__eq__") [y])
        (ifBound_K X I hs hf (wpAny_mono hcall (fun r s' hr => by
          obtain ⟨b, rfl, hq⟩ := hr
          repeat (first | exact hq | exact wpAny_pure hq | exact wpAny_truthy_bool hq | (refine wpAny_bind (m := truthy (.bool _)) (wpAny_truthy_bool ?_)) | wp_step)) fun _ _ e => e)))
    | wp_step)
theorem try_neV {Q : Option Value → Shared → Prop} (X : K.In s.heap) (I : InstAt s.heap x ox C od) (hs : findIn K (.ref C) "__eq__" = some (some (.ref f))) (hf : isFn K (.ref f) = true) (hn : findIn K (.ref C) "__ne__" = some (some (.builtin "object.__ne__")))
    (hsub : subIn K (.ref C) (.type "object") = some true) (hu : A.units + 1 < cLine)
    (hcall : wpAny (model prog w) A.in1 (call (.ref f) [.ref x, y]) (fun v s' => ∃ b, v = .bool b ∧ Q (some (.bool (!b))) s') E s) :
    wpAny (model prog w) A (tryCompare (.ref x) "__ne__" y) Q E s := by
  simp only [tryCompare, callSpecialIfBound?, bindSpecialIfBound?]
  have bnd : bindSpecial (.builtin "object.__ne__") (.ref x) = pure (.builtin "object.__ne__", [.ref x]) := PySem.F.cmp_object.ne.bind (.ref x)
  have body : wpAny (model prog w) A (call (.builtin "object.__ne__") [.ref x, y]) (fun v s' => ∃ b, v = .bool (!b) ∧ Q (some (.bool (!b))) s') E s :=
    wpAny_call (codeAny_call_builtin PySem.F.cmp_object.ne.plain PySem.F.cmpEntry_ne (chk_ne X I hsub (ob_neV (A := A.in1) X I hs hf hu (wpAny_mono hcall (fun v s' hv => by
      obtain ⟨b, rfl, hq⟩ := hv
      exact ⟨b, rfl, b, rfl, hq⟩) fun _ _ e => e))))
  refine wpAny_bind (wpAny_holding (wpAny_bind (wpAny_bind (wpAny_bind (I.type.here ((looks_findIn X hn).here ?_))))))
  simp only [bnd]
  refine wpAny_bind (wpAny_askSetting (wpAny_ite ?_))
  have fin : wpAny (model prog w) A (call (.builtin "object.__ne__") ([.ref x] ++ [y]) >>= fun v => pure (some v)) (fun a s' => wpAny (model prog w) A (match a with | some .notImplemented | none => pure none | some v => pure (some v)) Q E s') E s :=
    wpAny_bind (wpAny_mono body (fun v s' h' => by
      obtain ⟨b, rfl, hq⟩ := h'
      exact wpAny_pure (wpAny_pure hq)) fun _ _ h' => h')
  split
  · exact wpAny_bind (wpAny_pure (wpAny_pure (by exact fin)))
  · exact wpAny_tryCatch (wpAny_bind (wpAny_pure (wpAny_pure (by exact fin))))
theorem own_neV {Q : Value → Shared → Prop} (X : K.In s.heap) (I : InstAt s.heap x ox C od) (hb : Looks (model prog w) s.heap (typeOf y) tb) (hne : subIn K tb (.ref C) = some false) (hs : findIn K (.ref C) "__eq__" = some (some (.ref f))) (hf : isFn K (.ref f) = true)
    (hn : findIn K (.ref C) "__ne__" = some (some (.builtin "object.__ne__"))) (hsub : subIn K (.ref C) (.type "object") = some true) (hu : A.units + 1 < cLine)
    (hcall : wpAny (model prog w) A.in1 (call (.ref f) [.ref x, y]) (fun v s' => ∃ b, v = .bool b ∧ Q (.bool (!b)) s') E s) :
    wpAny (model prog w) A (compareOp .NotEq (.ref x) y) Q E s := by
  have last : wpAny (model prog w) A (tryCompare (.ref x) "__ne__" y) (fun r s' => ∃ b, r = some (.bool (!b)) ∧ Q (.bool (!b)) s') E s :=
    try_neV X I hs hf hn hsub hu (wpAny_mono hcall (fun v s' hv => by
      obtain ⟨b, rfl, hq⟩ := hv
      exact ⟨b, rfl, b, rfl, hq⟩) fun _ _ e => e)
  show wpAny (model prog w) A (richCompare .NotEq (.ref x) y) Q E s
  unfold richCompare
  simp only [oneThing_ref]
  refine wpAny_holding ?_
  refine wpAny_bind (wpAny_cRoomFor (Nat.lt_of_succ_lt hu) ?_)
  rw [cmpInfo_NotEq]
  dsimp only
  refine wpAny_bind (I.type.here (wpAny_bind (hb.here ?_)))
  split
  · refine wpAny_bind ((looks_subIn X hne).here ?_)
    simp only [Bool.false_eq_true, if_false]
    refine wpAny_bind (wpAny_mono last (fun r s' z => ?_) fun _ _ e => e)
    obtain ⟨b, rfl, hq⟩ := z
    exact wpAny_pure hq
  · refine wpAny_bind (wpAny_pure ?_)
    simp only [Bool.false_eq_true, if_false]
    refine wpAny_bind (wpAny_mono last (fun r s' z => ?_) fun _ _ e => e)
    obtain ⟨b, rfl, hq⟩ := z
    exact wpAny_pure hq
/-- a type's instance is none of the own class at B -/
theorem kit_other {B : Addr} (hd : hasDictIn K B = true) (ht : typeIn K (.ref B) = some (.type "type")) (hs : subIn K tb (.ref B) = some false) (hr : subIn K (.ref B) (.ref B) = some true) : kitOne K tb (.ref B) = some false := by
  obtain ⟨cd, hc, _⟩ := any_some hd
  have ne : ¬ ((tb == Value.ref B) = true) := fun z => by
    have e := beq_iff_eq.mp z
    subst e
    rw [hr] at hs
    cases hs
  have both : ((clsIn K B).isSome && typeIn K (.ref B) == some (.type "type")) = true := by rw [hc, ht] <;> rfl
  unfold kitOne
  rw [if_neg ne]
  show (if ((clsIn K B).isSome && typeIn K (.ref B) == some (.type "type")) = true then _ else _) = _
  rw [if_pos both, hs]
end
end L3
namespace L3
open PySem L2 PyProof.Rows
section
variable {X : Cx} {CX : CXT} {k : Nat} {C f : Addr} {fd : FuncData} {ps : List PySem.Str} {sp : Sp} {E : XK}
/-- x == y, y of another kind than x's class -/
def rOwnEqV (K : PySem.W.Frag) (C : Addr) (sp : Sp) (E : XK) : R2 := fun x y H Q => ∃ a dx fs t, x = .ref a ∧ H a = some (.ins C dx fs) ∧ TyX K H y t ∧ PySem.W.subIn K t (.ref C) = some false ∧ sp [.ref a, y] H Q E
def rOwnNeV (K : PySem.W.Frag) (C : Addr) (sp : Sp) (E : XK) : R2 := fun x y H Q => ∃ a dx fs t, x = .ref a ∧ H a = some (.ins C dx fs) ∧ TyX K H y t ∧ PySem.W.subIn K t (.ref C) = some false ∧ sp [.ref a, y] H (OwnB true Q) E
theorem op_ownEqV (hs : PySem.W.findIn X.K (.ref C) "__eq__" = some (some (.ref f))) (hf : PySem.W.isFn X.K (.ref f) = true)
    (F : FnOk X.prog X.w X.K X.mg X.base CX k f fd ps sp) (hr : Room k X.A) (hb : Binds X.K fd ps []) (hx : Passes CX X E) : OpR X (compareOp .Eq) (rOwnEqV X.K C sp E) := by
  intro pins s σ H x y v u Q I rx ry h
  obtain ⟨a, dx, fs, t, rfl, ea, ty, ns, q⟩ := h
  cases (show v = Value.ref a from rx)
  obtain ⟨ox, od, J⟩ := inst_of I ea
  obtain ⟨P, Z, p, _⟩ := kit_of I ry ty
  obtain ⟨m, hF⟩ := I.fr
  have nf : PySem.W.notFirst X.K C t = true := by unfold PySem.W.notFirst; rw [ns]; simp
  refine PySem.W.cmp_K (op := .Eq) (tb := t) hr.units0 hF I.ok.mod.kin J (Z.ty _ _ I.kIn p) nf hs hf ?_
  refine wpAny_mono (run_fn (us := [.ref a, u]) (vs := [.ref a, y]) F hr hb .nil hx I (.cons rfl (.cons ry .nil)) q) (fun r s' z => ?_) fun _ _ e => e
  obtain ⟨z', H', I', rz, qz⟩ := z
  exact SlX.cmpback rz ⟨z', H', I', rz, qz⟩
theorem op_ownNeV (hs : PySem.W.findIn X.K (.ref C) "__eq__" = some (some (.ref f))) (hf : PySem.W.isFn X.K (.ref f) = true) (hn : PySem.W.findIn X.K (.ref C) "__ne__" = some (some (.builtin "object.__ne__")))
    (hsub : PySem.W.subIn X.K (.ref C) (.type "object") = some true)
    (F : FnOk X.prog X.w X.K X.mg X.base CX k f fd ps sp) (hr : Room (k + 1) X.A) (hb : Binds X.K fd ps []) (hx : Passes CX X.nox E) : OpR X (compareOp .NotEq) (rOwnNeV X.K C sp E) := by
  intro pins s σ H x y v u Q I rx ry h
  obtain ⟨a, dx, fs, t, rfl, ea, ty, ns, q⟩ := h
  cases (show v = Value.ref a from rx)
  obtain ⟨ox, od, J⟩ := inst_of I ea
  obtain ⟨P, Z, p, _⟩ := kit_of I ry ty
  have hu : X.A.units + 1 < cLine := hu_of hr
  refine own_neV I.kIn J (Z.ty _ _ I.kIn p) ns hs hf hn hsub hu ?_
  have r2 : Vals [V.ref a, y] [Value.ref a, u] := .cons rfl (.cons ry .nil)
  have hl : ([Value.ref a, u] ++ ([] : List Value)).length = ps.length := by rw [← F.len _ _ _ _ q]; rfl
  refine wpAny_call (codeAny_mono (F.run X.A.in1 X.stack s H ⟨[.ref a, u], []⟩ [.ref a, u] [.ref a, y] _ E hr.in1 I.env0.in1 (by
    have := hb s [.ref a, u] I.kIn hl
    simpa using this) r2 q) fun r s' hq => ?_)
  cases r with
  | error e => exact False.elim (hx pins σ H s e s' (I.wish _) hq)
  | ok fl =>
    cases fl with
    | ret w' =>
      obtain ⟨z, H', I', rz, kb, ez, qz⟩ := I.after hq
      subst ez
      cases rz
      exact ⟨kb, rfl, .bl (!kb), H', I', rfl, qz⟩
    | next => exact False.elim hq
    | brk => exact False.elim hq
    | cont => exact False.elim hq
end
section
variable {K : PySem.W.Frag} {H : Hp} {Q : VK} {C a dx : Addr} {fs : List (PySem.Str × V)} {sp : Sp} {E : XK} {y : V} {t : Value}
theorem w_ownEqV (h1 : H a = some (.ins C dx fs)) (ty : TyX K H y t) (ns : PySem.W.subIn K t (.ref C) = some false) (h : sp [.ref a, y] H Q E) : rOwnEqV K C sp E (.ref a) y H Q := ⟨a, dx, fs, t, rfl, h1, ty, ns, h⟩
theorem w_ownNeV (h1 : H a = some (.ins C dx fs)) (ty : TyX K H y t) (ns : PySem.W.subIn K t (.ref C) = some false) (h : sp [.ref a, y] H (OwnB true Q) E) : rOwnNeV K C sp E (.ref a) y H Q := ⟨a, dx, fs, t, rfl, h1, ty, ns, h⟩
theorem isi_oth {c : V} {u : Value} (k : ClsV c u) (ty : TyX K H y t) (e : PySem.W.kitOne K t u = some false) (h : Q (.bl false) H) : rIsi K [y, c] H Q := ⟨_, _, _, _, false, rfl, k, ty, e, h⟩
theorem isi_oty {c : V} {u : Value} (k : ClsV c u) (ty : TyX K H y t) (e : PySem.W.kitOne K t u = some true) (h : Q (.bl true) H) : rIsi K [y, c] H Q := ⟨_, _, _, _, true, rfl, k, ty, e, h⟩
end
/-! making inside a try -/
section
variable {X : Cx} {CX : CXT} {k : Nat} {f C : Addr} {fd : FuncData} {ps : List PySem.Str} {sp : Sp} {E : L2.St → XK} {x : PySem.Str} {p pos : Pos} {e : Expr} {es : List Expr} {t : TA}
theorem run_makeS {pins : List (Addr × Obj)} {σ : L2.St} {H : Hp} {s : Shared} {Q : VK} {us : List Value} {vs : List V} (M : Mk X.K C f) (F : FnOk X.prog X.w X.K X.mg X.base CX k f fd ps sp) (hr : Room (k + 1) X.A) (hb : Binds X.K fd ps [])
    (hx : PassesAt CX X σ (E σ)) (I : Inv X pins σ H s) (r : Vals vs us)
    (h : ∀ a dx, H a = none → H dx = none → dx ≠ a → sp (.ref a :: vs) (upd (upd H dx (.own a)) a (.ins C dx [])) (fun v H2 => v = .non ∧ Q (.ref a) H2) (E σ)) :
    wpAny (model X.prog X.w) X.A (call (.ref C) us) (EP X pins σ Q) X.xe s := by
  have hq := h (s.heap.objs.size + 1) s.heap.objs.size (I.hok.fresh (Nat.le_succ _)) (I.hok.fresh (Nat.le_refl _)) (Nat.ne_of_lt (Nat.lt_succ_self _))
  have made := Inv.made (C := C) I
  have rel : Vals (V.ref (s.heap.objs.size + 1) :: vs) (Value.ref (s.heap.objs.size + 1) :: us) := .cons rfl r
  have len : (Value.ref (s.heap.objs.size + 1) :: us ++ []).length = ps.length := by
    have e := rel.length
    rw [F.len _ _ _ _ hq] at e
    rw [List.append_nil]
    exact e.symm
  have bd := hb _ (Value.ref (s.heap.objs.size + 1) :: us) made.kIn len
  rw [List.append_nil] at bd
  refine wpAny_call (make_map (f := f) I.kIn M.makes M.init (beq_iff_eq.mp M.fn) (codeAny_mono (F.run _ X.stack _ _ ⟨Value.ref (s.heap.objs.size + 1) :: us, []⟩ (Value.ref (s.heap.objs.size + 1) :: us) _ _ (E σ) (hr.make C us [])
    (made.env0.make C us []) bd rel hq) fun r s' out => ?_))
  cases r with
  | error e => exact hx pins _ _ e s' made out
  | ok fl =>
    cases fl with
    | ret u =>
      obtain ⟨v, H', I3, rv, ev, q3⟩ := made.after out
      subst ev
      exact ⟨rv, ⟨V.ref (s.heap.objs.size + 1), H', I3, rfl, q3⟩⟩
    | next => exact False.elim out
    | brk => exact False.elim out
    | cont => exact False.elim out
def tMakeS (C : Addr) (sp : Sp) (E : L2.St → XK) (tas : TA) : TE := fun σ H Q => tas σ H fun vs H1 => MakeR C sp (E σ) vs H1 Q
theorem pe_makeS (M : Mk X.K C f) (F : FnOk X.prog X.w X.K X.mg X.base CX k f fd ps sp) (hr : Room (k + 1) X.A) (hg : Gl X x) (hm : X.mg x = some (.ref C)) (hb : Binds X.K fd ps []) (hx : ∀ σ, PassesAt CX X σ (E σ))
    (ha : PA X (e :: es) t) (hdb : (x == ("__debug__" : PySem.Str)) = false := by decide) (he : starEach (e :: es) X.env = (false, eval e X.env) :: starEach es X.env := by rfl) (hpl : (backTo pos (starEach es X.env)).any (·.1) = false := by rfl) :
    PE X (.Call (.Name x p) (e :: es) [] pos) (tMakeS C sp E t) := by
  refine ⟨fun pins s σ H Q I h => ?_⟩
  refine wpAny_Call_Name_kw (ld_glob I hg hm ?_ hdb)
  refine PySem.W.callWith_K (h₀ := X.base) I.ok.mod.kin M.kp (thn (ha.run pos pins s σ H _ I h) fun us s1 got => ?_) he hpl
  obtain ⟨vs, H1, I1, r, q⟩ := got
  exact ⟨I1.kIn, run_makeS M F hr hb (hx σ) I1 r q⟩
theorem g_makeS {σ : L2.St} {H : Hp} {Q : VK} {tas : TA} (h : tas σ H fun vs H1 => MakeR C sp (E σ) vs H1 Q) : tMakeS C sp E tas σ H Q := h
end
end L3

set_option Elab.async false
set_option linter.all false
set_option maxRecDepth 100000
set_option maxHeartbeats 2000000
namespace L3
open PySem L2 PyProof.Rows
section
variable {H : Hp} {Q : VK} {g : TG} {tt : TT} {te : TE} {vs : List Nat} {σ : L2.St}
/-- a comprehension over a range whose items are new objects -/
theorem lcr1_objs {j : Int} (f : Nat → HO) (b1 : -(2 ^ 62) ≤ j) (hz : j ≤ 100000)
    (hs : ∀ i : Nat, (i : Int) < j → ∀ H1, Same H H1 → ∀ Z : Option V → Hp → Prop, (∀ q H2, Fr H1 q → Same H1 H2 → H2 q = some (f i) → Z (some (.ref q)) H2) → LcT g tt te vs σ (.int i) H1 Z)
    (k : ∀ D (qs : List Addr) H', Fr H D → Same H H' → qs.length = j.toNat → qs.Nodup → D ∉ qs → (∀ q ∈ qs, Fr H q) → (∀ (i : Nat) q, qs[i]? = some q → H' q = some (f i)) → H' D = some (.lst (qs.map V.ref)) → Q (.ref D) H') : LcR1 g tt te vs σ [.int j] H Q := by
  refine ⟨j, rfl, b1, by omega, fun D hD => lc_range (fun i H' => i ≤ j.toNat ∧ Same H H' ∧ ∃ qs : List Addr, qs.length = i ∧ qs.Nodup ∧ D ∉ qs ∧ (∀ q ∈ qs, Fr H q) ∧ (∀ (k : Nat) q, qs[k]? = some q → H' q = some (f k)) ∧ H' D = some (.lst (qs.map V.ref)))
    ⟨Nat.zero_le _, same_upd hD, [], rfl, List.nodup_nil, List.not_mem_nil, fun q h => absurd h List.not_mem_nil, fun k q h => by simp at h, upd_same⟩ ?_ ?_⟩
  · rintro i H1 hlt ⟨hi, sH, qs, hl, hn, hDq, hf, hq, eD⟩
    rw [Int.zero_add]
    refine hs i (by omega) H1 sH (fun o H4 => match o with
      | some y => ∃ acc, H4 D = some (.lst acc) ∧ acc.length < sizeLine ∧ (i + 1 ≤ j.toNat ∧ Same H (upd H4 D (.lst (acc ++ [y]))) ∧ ∃ qs : List Addr, qs.length = i + 1 ∧ qs.Nodup ∧ D ∉ qs ∧ (∀ q ∈ qs, Fr H q) ∧ (∀ (k : Nat) q, qs[k]? = some q → (upd H4 D (.lst (acc ++ [y]))) q = some (f k)) ∧ (upd H4 D (.lst (acc ++ [y]))) D = some (.lst (qs.map V.ref)))
      | none => i + 1 ≤ j.toNat ∧ Same H H4 ∧ ∃ qs : List Addr, qs.length = i + 1 ∧ qs.Nodup ∧ D ∉ qs ∧ (∀ q ∈ qs, Fr H q) ∧ (∀ (k : Nat) q, qs[k]? = some q → H4 q = some (f k)) ∧ H4 D = some (.lst (qs.map V.ref))) fun q H2 fq s2 hq2 => ?_
    have qD : q ≠ D := ne_new fq eD
    have qn : q ∉ qs := fun m => by
      obtain ⟨n, hn2, e⟩ := List.getElem_of_mem m
      have e2 : qs[n]? = some q := by rw [List.getElem?_eq_getElem hn2, e]
      exact ne_new fq (hq n q e2) rfl
    refine ⟨qs.map V.ref, s2 _ _ eD, ?_, hlt, fun b o e => ?_, qs ++ [q], by rw [List.length_append, hl]; rfl, ?_, ?_, ?_, ?_, by rw [upd_same, List.map_append]; rfl⟩
    · rw [List.length_map, hl]
      exact Nat.lt_of_le_of_lt (by omega : _ ≤ 100000) (by decide)
    · rw [upd_ne (ne_of_none e hD)]
      exact s2 _ _ (sH _ _ e)
    · rw [List.nodup_append]
      exact ⟨hn, by simp, fun a ha b hb => by simp at hb; subst hb; intro e; subst e; exact qn ha⟩
    · intro m
      rcases List.mem_append.mp m with m | m
      · exact hDq m
      · simp at m; exact qD m.symm
    · intro q' m
      rcases List.mem_append.mp m with m | m
      · exact hf q' m
      · simp at m; subst m; exact fq.back sH
    · intro n q' e
      have ne : q' ≠ D := fun z => by
        subst z
        rcases List.mem_append.mp (List.mem_of_getElem? e) with m | m
        · exact hDq m
        · simp at m; exact qD m.symm
      rw [upd_ne ne]
      by_cases hlt2 : n < qs.length
      · rw [List.getElem?_append_left hlt2] at e
        exact s2 _ _ (hq n q' e)
      · rw [List.getElem?_append_right (by omega)] at e
        have hn0 : n - qs.length = 0 := by
          have := (List.getElem?_eq_some_iff.mp e).1
          simp at this
          omega
        rw [hn0] at e
        simp at e
        subst e
        have : n = i := by omega
        subst this
        exact hq2
  · rintro H1 ⟨_, sH, qs, hl, hn, hDq, hf, hq, eD⟩
    exact k D qs H1 ⟨hD⟩ sH hl hn hDq hf hq eD
/-- the same over a list -/
theorem lc_objs {xs : List V} {a : Addr} {K : PySem.W.Frag} (f : Nat → HO) (h1 : SqL K H a xs) (hz : xs.length ≤ 100000)
    (hs : ∀ (i : Nat) x, xs[i]? = some x → ∀ H1, Same H H1 → ∀ Z : Option V → Hp → Prop, (∀ q H2, Fr H1 q → Same H1 H2 → H2 q = some (f i) → Z (some (.ref q)) H2) → LcT g tt te vs σ x H1 Z)
    (k : ∀ D (qs : List Addr) H', Fr H D → Same H H' → qs.length = xs.length → qs.Nodup → D ∉ qs → (∀ q ∈ qs, Fr H q) → (∀ (i : Nat) q, qs[i]? = some q → H' q = some (f i)) → H' D = some (.lst (qs.map V.ref)) → Q (.ref D) H') : LcL K g tt te vs σ (.ref a) H Q := by
  refine ⟨a, rfl, ⟨xs, h1⟩, fun D hD => lc_list (xs := xs) (fun i H' => i ≤ xs.length ∧ Same H H' ∧ ∃ qs : List Addr, qs.length = i ∧ qs.Nodup ∧ D ∉ qs ∧ (∀ q ∈ qs, Fr H q) ∧ (∀ (k : Nat) q, qs[k]? = some q → H' q = some (f k)) ∧ H' D = some (.lst (qs.map V.ref)))
    ⟨Nat.zero_le _, same_upd hD, [], rfl, List.nodup_nil, List.not_mem_nil, fun q h => absurd h List.not_mem_nil, fun k q h => by simp at h, upd_same⟩ (fun i H' _ q => q.2.1.seq h1) ?_ ?_⟩
  · rintro i x H1 hx ⟨hi, sH, qs, hl, hn, hDq, hf, hq, eD⟩
    have hlt : i < xs.length := (List.getElem?_eq_some_iff.mp hx).1
    refine hs i x hx H1 sH (fun o H4 => match o with
      | some y => ∃ acc, H4 D = some (.lst acc) ∧ acc.length < sizeLine ∧ (i + 1 ≤ xs.length ∧ Same H (upd H4 D (.lst (acc ++ [y]))) ∧ ∃ qs : List Addr, qs.length = i + 1 ∧ qs.Nodup ∧ D ∉ qs ∧ (∀ q ∈ qs, Fr H q) ∧ (∀ (k : Nat) q, qs[k]? = some q → (upd H4 D (.lst (acc ++ [y]))) q = some (f k)) ∧ (upd H4 D (.lst (acc ++ [y]))) D = some (.lst (qs.map V.ref)))
      | none => i + 1 ≤ xs.length ∧ Same H H4 ∧ ∃ qs : List Addr, qs.length = i + 1 ∧ qs.Nodup ∧ D ∉ qs ∧ (∀ q ∈ qs, Fr H q) ∧ (∀ (k : Nat) q, qs[k]? = some q → H4 q = some (f k)) ∧ H4 D = some (.lst (qs.map V.ref))) fun q H2 fq s2 hq2 => ?_
    have qD : q ≠ D := ne_new fq eD
    have qn : q ∉ qs := fun m => by
      obtain ⟨n, hn2, e⟩ := List.getElem_of_mem m
      have e2 : qs[n]? = some q := by rw [List.getElem?_eq_getElem hn2, e]
      exact ne_new fq (hq n q e2) rfl
    refine ⟨qs.map V.ref, s2 _ _ eD, ?_, hlt, fun b o e => ?_, qs ++ [q], by rw [List.length_append, hl]; rfl, ?_, ?_, ?_, ?_, by rw [upd_same, List.map_append]; rfl⟩
    · rw [List.length_map, hl]
      exact Nat.lt_of_le_of_lt (by omega : _ ≤ 100000) (by decide)
    · rw [upd_ne (ne_of_none e hD)]
      exact s2 _ _ (sH _ _ e)
    · rw [List.nodup_append]
      exact ⟨hn, by simp, fun a ha b hb => by simp at hb; subst hb; intro e; subst e; exact qn ha⟩
    · intro m
      rcases List.mem_append.mp m with m | m
      · exact hDq m
      · simp at m; exact qD m.symm
    · intro q' m
      rcases List.mem_append.mp m with m | m
      · exact hf q' m
      · simp at m; subst m; exact fq.back sH
    · intro n q' e
      have ne : q' ≠ D := fun z => by
        subst z
        rcases List.mem_append.mp (List.mem_of_getElem? e) with m | m
        · exact hDq m
        · simp at m; exact qD m.symm
      rw [upd_ne ne]
      by_cases hlt2 : n < qs.length
      · rw [List.getElem?_append_left hlt2] at e
        exact s2 _ _ (hq n q' e)
      · rw [List.getElem?_append_right (by omega)] at e
        have hn0 : n - qs.length = 0 := by
          have := (List.getElem?_eq_some_iff.mp e).1
          simp at this
          omega
        rw [hn0] at e
        simp at e
        subst e
        have : n = i := by omega
        subst this
        exact hq2
  · rintro H1 ⟨_, sH, qs, hl, hn, hDq, hf, hq, eD⟩
    exact k D qs H1 ⟨hD⟩ sH hl hn hDq hf hq eD
end
end L3

set_option Elab.async false
set_option linter.all false
set_option maxRecDepth 100000
set_option maxHeartbeats 2000000
/-! texts: their lengths, ints as texts, f-strings, joins; an own operator with an int. -/
namespace L3
open PySem L2 PyProof.Rows
/-- an int's text -/
def tx (i : Int) : PySem.Str := PySem.Str.ofString (toString i)
def TL (n : Nat) (s : PySem.Str) : Prop := s.length ≤ n
theorem TL.app {a b : Nat} {x y : PySem.Str} (ha : TL a x) (hb : TL b y) : TL (a + b) (x ++ y) := by
  unfold TL at *
  rw [strLen_append]
  omega
theorem TL.mono {a b : Nat} {x : PySem.Str} (ha : TL a x) (h : a ≤ b) : TL b x := Nat.le_trans ha h
theorem Sz.log {n : Nat} {i : Int} (h : Sz n i) (hn : 0 < n) : i.natAbs.log2 < n := by
  by_cases z : i.natAbs = 0
  · rw [z]; simpa using hn
  · exact (Nat.log2_lt z).mpr h
theorem TL.int {i : Int} (h : Sz 1900 i) : TL 1901 (tx i) := by
  unfold TL tx
  rw [PySem.ofString_length]
  exact int_text_length_le (by decide) (h.log (by decide))
theorem TL.empty : TL 0 PySem.Str.empty := Nat.le_of_eq rfl
section
variable {H : Hp} {Q : VK} {i : Int} {x y acc : PySem.Str} {a b : Nat} {σ : L2.St} {te : TE} {ts : List TE}
def rStr1 : List V → Hp → VK → Prop := fun xs H Q => ∃ i, xs = [.int i] ∧ i.natAbs.log2 < 1920 ∧ Q (.str (tx i)) H
theorem c_str1 {X : Cx} : CallR X (.type "str") rStr1 := call_str_int
theorem b_str (h : Sz 1900 i) (k : Q (.str (tx i)) H) : rStr1 [.int i] H Q := ⟨i, rfl, Nat.lt_of_lt_of_le (h.log (by decide)) (by decide), k⟩
theorem o_adds (ha : TL a x) (hb : TL b y) (h : a + b ≤ 16777216) (k : Q (.str (x ++ y)) H) : rAddS (.str x) (.str y) H Q := ⟨x, y, rfl, rfl, by unfold TL at ha hb; rw [sizeLine_eq]; omega, k⟩
def FmtR (x : V) (H : Hp) (Q : VK) : Prop := (∃ y : PySem.Str, x = .str y ∧ y.length ≤ sizeLine ∧ Q (.str y) H) ∨ ∃ i : Int, x = .int i ∧ i.natAbs.log2 < 1920 ∧ Q (.str (tx i)) H
theorem g_fmt (h : te σ H fun x H1 => FmtR x H1 Q) : tFmt te σ H Q := h
theorem fmt_int (h : Sz 1900 i) (k : Q (.str (tx i)) H) : FmtR (.int i) H Q := .inr ⟨i, rfl, Nat.lt_of_lt_of_le (h.log (by decide)) (by decide), k⟩
def JsR (ts : List TE) (acc : PySem.Str) (σ : L2.St) (x : V) (H : Hp) (Q : PySem.Str → Hp → Prop) : Prop := ∃ y : PySem.Str, x = .str y ∧ (acc ++ y).length ≤ sizeLine ∧ tJs ts (acc ++ y) σ H Q
def tFs (ts : List TE) : TE := fun σ H Q => tJs ts PySem.Str.empty σ H fun out H1 => Q (.str out) H1
theorem pe_fs {X : Cx} {v1 v2 : Expr} {rest : List Expr} {ts : List TE} {pos : Pos} (h : PJ X (v1 :: v2 :: rest) ts) : PE X (.JoinedStr (v1 :: v2 :: rest) pos) (tFs ts) := pe_joined h
theorem g_fs (h : tJs ts PySem.Str.empty σ H fun out H1 => Q (.str out) H1) : tFs ts σ H Q := h
theorem js_nil {Q : PySem.Str → Hp → Prop} (h : Q acc H) : tJs [] acc σ H Q := h
theorem js_cons {Q : PySem.Str → Hp → Prop} (h : te σ H fun x H1 => JsR ts acc σ x H1 Q) : tJs (te :: ts) acc σ H Q := h
theorem js_at {Q : PySem.Str → Hp → Prop} (ha : TL a acc) (hb : TL b y) (h : a + b ≤ 16777216) (k : tJs ts (acc ++ y) σ H Q) : JsR ts acc σ (.str y) H Q := ⟨y, rfl, by have := TL.app ha hb; unfold TL at this; rw [sizeLine_eq]; omega, k⟩
def M1R (r : V → List V → Hp → VK → Prop) (te : TE) (σ : L2.St) (x : V) (H : Hp) (Q : VK) : Prop := (∃ a, x = .str a) ∧ te σ H fun y H2 => r x [y] H2 Q
theorem g_m1 {r : V → List V → Hp → VK → Prop} {to : TE} (h : to σ H fun x H1 => M1R r te σ x H1 Q) : tM1 r to te σ H Q := h
theorem m1_at {r : V → List V → Hp → VK → Prop} (h : te σ H fun y H2 => r (.str x) [y] H2 Q) : M1R r te σ (.str x) H Q := ⟨⟨x, rfl⟩, h⟩
def rJoin (K : PySem.W.Frag) : V → List V → Hp → VK → Prop := fun x xs H Q => ∃ a p, ∃ ys : List PySem.Str, x = .str a ∧ xs = [.ref p] ∧ (SqL K H p (ys.map V.str) ∨ SqT K H p (ys.map V.str)) ∧
    (ys.map (·.length)).sum + ys.length * a.length ≤ 16777216 ∧ Q (.str (Txt.join a ys)) H
theorem pe_joinK {X : Cx} {K : PySem.W.Frag} {o e : Expr} {to te : TE} {apos pos : Pos} (hK : X.K = K) (ho : PE X o to) (he : PE X e te) (hs : starEach [e] X.env = [(false, eval e X.env)] := by rfl) (hbase : attributeBase o "join" X.env (eval o X.env) = eval o X.env := by rfl) (hline : (apos.endLine == pos.line) = true := by rfl) :
    PE X (.Call (.Attribute o "join" apos) [e] [] pos) (tM1 (rJoin K) to te) := by
  subst hK
  exact pe_join ho he hs hbase hline
theorem o_join {K : PySem.W.Frag} {p : Addr} {xs : List V} {ys : List PySem.Str} (h1 : H p = some (.lst xs)) (e : xs = ys.map V.str) (hc : (ys.map (·.length)).sum + ys.length * x.length ≤ 16777216) (k : Q (.str (Txt.join x ys)) H) : rJoin K (.str x) [.ref p] H Q := ⟨x, p, ys, rfl, rfl, .inl (SqL.of (e ▸ h1)), hc, k⟩
theorem o_eqs (k : Q (.bl (decide (x = y))) H) : rEq (.str x) (.str y) H Q := ⟨rfl, by
  have e : decide (V.str x = V.str y) = decide (x = y) := by by_cases z : x = y <;> simp [z]
  rw [e]; exact k⟩
theorem o_nes (k : Q (.bl (!decide (x = y))) H) : rNe (.str x) (.str y) H Q := ⟨rfl, by
  have e : decide (V.str x = V.str y) = decide (x = y) := by by_cases z : x = y <;> simp [z]
  rw [e]; exact k⟩
end
/-! own operators with an int -/
section
variable {X : Cx} {CX : CXT} {k : Nat} {C f : Addr} {fd : FuncData} {ps : List PySem.Str} {sp : Sp} {E : XK}
def rOwnI (C : Addr) (sp : Sp) (E : XK) : R2 := fun x y H Q => ∃ a dx fs j, x = .ref a ∧ y = .int j ∧ H a = some (.ins C dx fs) ∧ sp [.ref a, .int j] H Q E
/-- what is to be known of an own operator with an int on its right -/
structure OwnI (K : PySem.W.Frag) (C : Addr) (m rm : PySem.Str) : Prop where
  ex : ∃ fo ro rc, PySem.W.findIn K (.ref C) rm = some rc ∧ (rc = none ∨ ∃ g : Addr, rc = some (.ref g)) ∧ PySem.W.findIn K (.type "int") m = some fo ∧ PySem.W.findIn K (.type "int") rm = some ro ∧ PySem.W.subIn K (.type "int") (.ref C) = some false
theorem op_ownI {op : Operator} (o : OwnI X.K C (PySem.dunder op.info.2) (PySem.dunderR op.info.2)) (hc : PySem.W.selfFirst X.K C = true) (hs : PySem.W.findIn X.K (.ref C) (PySem.dunder op.info.2) = some (some (.ref f))) (hf : PySem.W.isFn X.K (.ref f) = true)
    (F : FnOk X.prog X.w X.K X.mg X.base CX k f fd ps sp) (hr : Room k X.A) (hb : Binds X.K fd ps []) (hx : Passes CX X E) : OpR X (binaryOp op) (rOwnI C sp E) := by
  intro pins s σ H x y v u Q I rx ry h
  obtain ⟨a, dx, fs, j, rfl, rfl, ea, q⟩ := h
  obtain ⟨fo, ro, rc, e1, e2, e3, e4, e5⟩ := o.ex
  cases (show v = Value.ref a from rx)
  obtain ⟨t, ht⟩ := (show ∃ t, u = Value.int j t from ry)
  subst ht
  obtain ⟨ox, od, J⟩ := inst_of I ea
  obtain ⟨m, hF⟩ := I.fr
  refine PySem.W.ksp_binT (T := "int") hF I.ok.mod.kin J rfl hc hs hf e1 e2 e3 e4 e5 ?_
  refine wpAny_mono (run_fn (us := [.ref a, .int j t]) (vs := [.ref a, .int j]) F hr hb .nil hx I (.cons rfl (.cons ⟨t, rfl⟩ .nil)) q) (fun r s' z => ?_) fun _ _ e => e
  obtain ⟨z', H', I', rz, qz⟩ := z
  exact SlX.cmpback rz ⟨z', H', I', rz, qz⟩
theorem w_ownI {H : Hp} {Q : VK} {a dx : Addr} {fs : List (PySem.Str × V)} {j : Int} (h1 : H a = some (.ins C dx fs)) (h : sp [.ref a, .int j] H Q E) : rOwnI C sp E (.ref a) (.int j) H Q := ⟨a, dx, fs, j, rfl, rfl, h1, h⟩
end
/-! joins, text by text -/
theorem join_snoc (sep a : PySem.Str) (l : List PySem.Str) : Txt.join sep (l ++ [a]) = if l = [] then a else Txt.join sep l ++ sep ++ a := by
  have e : ∀ ys, Txt.join sep ys = PySem.Str.join sep ys := fun ys => StrLaws.glued_eq_join sep ys
  rw [e, e]
  exact PyProof.Rows.FinIter.join_snoc sep a l
/-! rows of ints -/
/-- lists of ints stand at the addresses -/
inductive Rows (H : Hp) : List Addr → List (List Int) → Prop
  | nil : Rows H [] []
  | cons {q : Addr} {ns : List Int} {qs : List Addr} {nss : List (List Int)} (h : H q = some (.lst (ns.map V.int))) (r : Rows H qs nss) : Rows H (q :: qs) (ns :: nss)
theorem Rows.len {H : Hp} : ∀ {qs : List Addr} {nss : List (List Int)}, Rows H qs nss → qs.length = nss.length
  | _, _, .nil => rfl
  | _, _, .cons _ r => by rw [List.length_cons, List.length_cons, r.len]
theorem Rows.imp {H H' : Hp} : ∀ {qs : List Addr} {nss : List (List Int)}, Rows H qs nss → (∀ q ∈ qs, ∀ o, H q = some o → H' q = some o) → Rows H' qs nss
  | _, _, .nil, _ => .nil
  | _, _, .cons h r, f => .cons (f _ List.mem_cons_self _ h) (r.imp fun q m => f q (List.mem_cons_of_mem _ m))
theorem Rows.same {H H' : Hp} {qs : List Addr} {nss : List (List Int)} (r : Rows H qs nss) (s : Same H H') : Rows H' qs nss := r.imp fun _ _ _ h => s _ _ h
theorem Rows.snoc {H : Hp} {q : Addr} {ns : List Int} (h : H q = some (.lst (ns.map V.int))) : ∀ {qs : List Addr} {nss : List (List Int)}, Rows H qs nss → Rows H (qs ++ [q]) (nss ++ [ns])
  | _, _, .nil => .cons h .nil
  | _, _, .cons h' r => .cons h' (r.snoc h)
theorem Rows.at_ {H : Hp} : ∀ {qs : List Addr} {nss : List (List Int)}, Rows H qs nss → ∀ {i : Nat} {q : Addr}, qs[i]? = some q → ∃ ns, nss[i]? = some ns ∧ H q = some (.lst (ns.map V.int))
  | _, _, .nil, i, q, h => by simp at h
  | _, _, .cons h' r, 0, q, h => by
    simp only [List.getElem?_cons_zero, Option.some.injEq] at h
    subst h
    exact ⟨_, rfl, h'⟩
  | _, _, .cons h' r, i + 1, q, h => by
    rw [List.getElem?_cons_succ] at h ⊢
    exact r.at_ h
theorem rows_dp {K : PySem.W.Frag} {H : Hp} : ∀ {qs : List Addr} {nss : List (List Int)}, Rows H qs nss → DpAll K H (qs.map V.ref) (nss.map fun ns => PyData.list (ns.map PyData.int))
  | _, _, .nil => .nil
  | _, _, .cons h r => .cons (.lst (SqL.of h) (dp_ints _)) (rows_dp r)
theorem lay_rows : ∀ nss : List (List Int), PyData.canLayAll0 (nss.map fun ns => PyData.list (ns.map PyData.int)) = true
  | [] => by simp [PyData.canLayAll0]
  | ns :: nss => by simp [PyData.canLayAll0, PyData.canLay0, lay_rows nss, lay_ints ns]
theorem depth_rows : ∀ nss : List (List Int), PyData.depthAll (nss.map fun ns => PyData.list (ns.map PyData.int)) ≤ 2
  | [] => by simp [PyData.depthAll]
  | ns :: nss => by
    have h1 := depth_rows nss
    have h2 := depth_ints ns
    simp only [List.map_cons, PyData.depthAll, PyData.depth]
    omega
theorem shaped_rows (nss : List (List Int)) : SeqAt.shaped (.list (nss.map fun ns => PyData.list (ns.map PyData.int))) = true := by
  have h1 := depth_rows nss
  have h2 : PyData.depth (.list (nss.map fun ns => PyData.list (ns.map PyData.int))) ≤ 64 := by
    simp only [PyData.depth]
    omega
  show (PyData.canLay0 (.list (nss.map fun ns => PyData.list (ns.map PyData.int))) && decide (PyData.depth (.list (nss.map fun ns => PyData.list (ns.map PyData.int))) ≤ 64)) = true
  rw [Bool.and_eq_true]
  exact ⟨by simp only [PyData.canLay0]; exact lay_rows nss, decide_eq_true h2⟩
def rowTx (ns : List Int) : PySem.Str := Txt.join " " (ns.map tx)
def rowsTx (nss : List (List Int)) : PySem.Str := Txt.join "; " (nss.map rowTx)
theorem join_len (sep : PySem.Str) : ∀ l : List PySem.Str, (Txt.join sep l).length ≤ (l.map (·.length)).sum + l.length * sep.length
  | [] => Nat.zero_le _
  | a :: l => by
    have e : Txt.join sep (a :: l) = PySem.Str.join sep (a :: l) := StrLaws.glued_eq_join sep _
    rw [e, PyProof.Rows.len_join_cons, List.length_cons, Nat.add_mul]
    omega
theorem sum_le {n : Nat} : ∀ l : List PySem.Str, (∀ x ∈ l, x.length ≤ n) → (l.map (·.length)).sum ≤ l.length * n
  | [], _ => Nat.zero_le _
  | a :: l, h => by
    have h1 := sum_le l fun x m => h x (List.mem_cons_of_mem _ m)
    have h2 := h a List.mem_cons_self
    rw [List.map_cons, List.sum_cons, List.length_cons, Nat.add_mul]
    omega
theorem tx_le {i : Int} (h : Sz 1900 i) : (tx i).length ≤ 1901 := TL.int h
theorem row_cost {ns : List Int} (hl : ns.length ≤ 40) (hb : ∀ z ∈ ns, Sz 1900 z) : ((ns.map tx).map (·.length)).sum + (ns.map tx).length * (" " : PySem.Str).length ≤ 77000 := by
  have h1 := sum_le (n := 1901) (ns.map tx) (fun x m => by obtain ⟨z, hz, rfl⟩ := List.mem_map.mp m; exact tx_le (hb z hz))
  rw [List.length_map] at h1 ⊢
  have e : (" " : PySem.Str).length = 1 := by decide +kernel
  have : ns.length * 1901 ≤ 40 * 1901 := Nat.mul_le_mul_right _ hl
  rw [e]
  omega
theorem row_le {ns : List Int} (hl : ns.length ≤ 40) (hb : ∀ z ∈ ns, Sz 1900 z) : (rowTx ns).length ≤ 77000 := Nat.le_trans (join_len _ _) (row_cost hl hb)
def Fine (nss : List (List Int)) : Prop := nss.length ≤ 40 ∧ ∀ ns ∈ nss, ns.length ≤ 40 ∧ 1 ≤ ns.length ∧ ∀ z ∈ ns, Sz 1900 z
theorem rows_cost {nss : List (List Int)} (h : Fine nss) : ((nss.map rowTx).map (·.length)).sum + (nss.map rowTx).length * ("; " : PySem.Str).length ≤ 3100000 := by
  have h1 := sum_le (n := 77000) (nss.map rowTx) (fun x m => by obtain ⟨z, hz, rfl⟩ := List.mem_map.mp m; exact row_le (h.2 z hz).1 (h.2 z hz).2.2)
  rw [List.length_map] at h1 ⊢
  have e : ("; " : PySem.Str).length = 2 := by decide +kernel
  have : nss.length * 77000 ≤ 40 * 77000 := Nat.mul_le_mul_right _ h.1
  have := h.1
  rw [e]
  omega
theorem rows_le {nss : List (List Int)} (h : Fine nss) : (rowsTx nss).length ≤ 3100000 := Nat.le_trans (join_len _ _) (rows_cost h)
theorem Fine.take {nss : List (List Int)} (h : Fine nss) (i : Nat) : Fine (nss.take i) := ⟨by rw [List.length_take]; have := h.1; omega, fun ns m => h.2 ns (List.mem_of_mem_take m)⟩
theorem tx_pos (i : Int) : 1 ≤ (tx i).length := by
  unfold tx
  rw [PySem.ofString_length]
  cases i with
  | ofNat m =>
    show 1 ≤ (Nat.repr m).length
    have := @Nat.length_repr_pos m
    omega
  | negSucc m =>
    show 1 ≤ ("-" ++ Nat.repr (m + 1)).length
    rw [String.length_append]
    have : ("-" : String).length = 1 := rfl
    omega
theorem join_pos {sep a : PySem.Str} {l : List PySem.Str} (h : 1 ≤ a.length) : 1 ≤ (Txt.join sep (a :: l)).length := by
  have e : Txt.join sep (a :: l) = PySem.Str.join sep (a :: l) := StrLaws.glued_eq_join sep _
  rw [e, PyProof.Rows.len_join_cons, List.map_cons, List.sum_cons]
  omega
theorem row_pos {ns : List Int} (h : 1 ≤ ns.length) : 1 ≤ (rowTx ns).length := by
  match ns, h with
  | z :: zs, _ => exact join_pos (tx_pos z)
theorem rows_ne {nss : List (List Int)} (h : Fine nss) (hn : 1 ≤ nss.length) : ¬ (rowsTx nss = "") := by
  intro e
  have l0 : ("" : PySem.Str).length = 0 := by decide +kernel
  have l1 : 1 ≤ (rowsTx nss).length := by
    match nss, hn, h with
    | ns :: r, _, h => exact join_pos (row_pos (h.2 ns List.mem_cons_self).2.1)
  rw [e, l0] at l1
  omega
theorem rowsTx_snoc (l : List (List Int)) (ns : List Int) : rowsTx (l ++ [ns]) = if l = [] then rowTx ns else rowsTx l ++ "; " ++ rowTx ns := by
  unfold rowsTx
  rw [List.map_append, List.map_cons, List.map_nil, join_snoc]
  by_cases e : l = []
  · subst e; rfl
  · rw [if_neg e, if_neg (by simpa using e)]
/-! a comprehension that draws ints from a well -/
structure Wel (p : Addr) (H : Hp) (x y : Int) : Prop where
  at_ : H p = some (.lst [.int x, .int y])
  x0 : 0 ≤ x
  y0 : 0 ≤ y
  y1 : y < 10 ^ 12
section
variable {H : Hp} {Q : VK} {g : TG} {tt : TT} {te : TE} {vs : List Nat} {σ : L2.St} {p : Addr} {x y : Int}
theorem lc_draw {j : Int} (B : Int → Prop) (b1 : -(2 ^ 62) ≤ j) (hz : j ≤ 100000) (h1 : Wel p H x y)
    (hs : ∀ (i : Nat) x y H1, (i : Int) < j → SB p H H1 → Wel p H1 x y → ∀ Z : Option V → Hp → Prop, (∀ r x' y' H2, B r → SB p H1 H2 → Wel p H2 x' y' → Z (some (.int r)) H2) → LcT g tt te vs σ (.int i) H1 Z)
    (k : ∀ D (ds : List Int) x' y' H', Fr H D → ds.length = j.toNat → (∀ z ∈ ds, B z) → SB p H H' → Wel p H' x' y' → H' D = some (.lst (ds.map V.int)) → Q (.ref D) H') : LcR1 g tt te vs σ [.int j] H Q := by
  refine lcr1_acc (fun i acc H1 => ∃ (ds : List Int) (x y : Int), acc = ds.map V.int ∧ (∀ z ∈ ds, B z) ∧ SB p H H1 ∧ Wel p H1 x y) b1 hz ⟨[], x, y, rfl, fun z h => (List.not_mem_nil h).elim, SB.refl _ _, h1⟩ ?_ ?_ ?_
  · rintro D hD i acc H1 H2 s2 ⟨ds, u, v, e, hb, s1, w⟩
    have pD : p ≠ D := fun e => by have := h1.at_; rw [e, hD] at this; cases this
    refine ⟨ds, u, v, e, hb, fun c o n hc => ?_, ⟨s2 _ _ pD w.at_, w.x0, w.y0, w.y1⟩⟩
    exact s2 _ _ (fun z => by rw [z, hD] at hc; cases hc) (s1 _ _ n hc)
  · rintro i acc H1 hi al ⟨ds, u, v, e, hb, s1, w⟩ Z kZ
    refine hs i u v H1 hi s1 w Z fun r u' v' H2 br s2 w2 => kZ _ _ (fun a o ha hc => ?_) ⟨ds ++ [r], u', v', by rw [e, List.map_append]; rfl, ?_, s1.trans s2, w2⟩
    · exact s2 _ _ (fun z => by rw [z, h1.at_] at ha; cases ha) hc
    · intro z hz
      rcases List.mem_append.mp hz with h | h
      · exact hb z h
      · rw [List.mem_singleton.mp h]; exact br
  · rintro D acc H' fD al ⟨ds, u, v, e, hb, s1, w⟩ hD
    subst e
    rw [List.length_map] at al
    exact k D ds u v H' fD al hb s1 w hD
end
end L3

set_option Elab.async false
set_option linter.all false
set_option maxRecDepth 100000
set_option maxHeartbeats 2000000
/-! texts by their signs. -/
namespace L3
open PySem L2 PyProof.Rows
abbrev S (l : List Nat) : PySem.Str := SX.S l
/-- the signs of an int's text -/
def itx (i : Int) : List Nat := if 0 ≤ i then TL.numL i.natAbs else 45 :: TL.numL i.natAbs
theorem tx_S (i : Int) : tx i = S (itx i) := by
  unfold tx itx
  cases i with
  | ofNat m =>
    have h : (0 : Int) ≤ Int.ofNat m := Int.natCast_nonneg m
    rw [if_pos h]
    exact SX.num_S m
  | negSucc m =>
    rw [if_neg (by omega)]
    have e : toString (Int.negSucc m) = "-" ++ toString (((m + 1 : Nat) : Int)) := rfl
    apply TL.ext_tl
    rw [e, TL.tl_ofString, String.toList_append, List.map_append, ← TL.tl_ofString (toString (((m + 1 : Nat) : Int))), TL.tl_num]
    rfl
theorem itx_signs {i : Int} {c : Nat} (h : c ∈ itx i) : c = 45 ∨ (48 ≤ c ∧ c ≤ 57) := by
  unfold itx at h
  split at h
  · exact .inr (TL.numL_digits _ c h)
  · rcases List.mem_cons.mp h with h | h
    · exact .inl h
    · exact .inr (TL.numL_digits _ c h)
theorem itx_free {i : Int} {s : Nat} (h1 : s ≠ 45) (h2 : s < 48 ∨ 57 < s) : s ∉ itx i := fun m => by
  have := itx_signs m
  omega
theorem itx_ne (i : Int) : itx i ≠ [] := by
  unfold itx
  split
  · exact TL.numL_ne _
  · exact List.cons_ne_nil _ _
theorem itx_inj {i j : Int} (h : itx i = itx j) : i = j := by
  unfold itx at h
  split at h <;> split at h
  · have := TL.numL_inj h; omega
  · exact absurd (h ▸ List.mem_cons_self) (TL.numL_free (by omega : (45 : Nat) < 48 ∨ 57 < 45))
  · exact absurd (h.symm ▸ List.mem_cons_self) (TL.numL_free (by omega : (45 : Nat) < 48 ∨ 57 < 45))
  · have := TL.numL_inj (List.cons.inj h).2; omega
theorem numL_len60 {i : Int} (h : i.natAbs < 10 ^ 60) : (TL.numL i.natAbs).length ≤ 60 := TL.numL_len (by decide) h
/-- the text is read back -/
theorem int_back {i : Int} (h : i.natAbs < 10 ^ 60) : PySem.intText? (S (itx i)) = some i := by
  have l := numL_len60 h
  unfold itx
  split
  · have e := intText_digits (x := S (TL.numL i.natAbs)) (TL.numL_digits _) (TL.numL_ne _) (by rw [SX.S_len]; omega)
    rw [show (S (TL.numL i.natAbs)).cps.toList = TL.numL i.natAbs from rfl, TL.numL_val] at e
    rw [e]
    congr 1
    omega
  · have e := intText_neg (x := S (45 :: TL.numL i.natAbs)) (cs := TL.numL i.natAbs) rfl (TL.numL_digits _) (TL.numL_ne _) (by rw [SX.S_len, List.length_cons]; omega)
    rw [e, TL.numL_val]
    congr 1
    omega
/-- a text of digits begins with 0 only if it is 0 itself -/
theorem numL_zero (n : Nat) (h : n ≠ 0) : (TL.numL n).head? ≠ some 48 := by
  induction n using Nat.strongRecOn with
  | _ n ih =>
    by_cases hn : n < 10
    · rw [TL.numL_lt hn]
      simp
      omega
    · rw [TL.numL_step (by omega)]
      have h2 := ih (n / 10) (by omega) (by omega)
      cases e : TL.numL (n / 10) with
      | nil => exact absurd e (TL.numL_ne _)
      | cons c r => rw [e] at h2; simpa using h2
/-! questions to a text -/
theorem subOne (l : List Nat) (c i : Nat) : (decide (i + 1 ≤ (S l).length) && Builtin.Str.subAt (S l) (S [c]) i) = decide (l[i]? = some c) := by
  rw [Bool.eq_iff_iff, Bool.and_eq_true, decide_eq_true_iff, decide_eq_true_iff]
  exact StrLaws.subAt_one (S l) c i
theorem starts_S {c : Nat} {l : List Nat} : Txt.startswith (S l) (S [c]) = decide (l.head? = some c) := by
  have e := subOne l c 0
  rw [show l[0]? = l.head? from (List.head?_eq_getElem? (l := l)).symm] at e
  rw [← e]
  show (decide (0 + (S [c]).length ≤ (S l).length) && _) = _
  rw [SX.S_len [c], Nat.zero_add]
  rfl
theorem ends_S {c : Nat} {l : List Nat} : Txt.endswith (S l) (S [c]) = decide (l.getLast? = some c) := by
  show (decide (0 + (S [c]).length ≤ (S l).length) && Builtin.Str.subAt (S l) (S [c]) ((S l).length - (S [c]).length)) = _
  rw [SX.S_len [c], SX.S_len l]
  cases l with
  | nil => rfl
  | cons a r =>
    have e := subOne (a :: r) c ((a :: r).length - 1)
    rw [SX.S_len, ← List.getLast?_eq_getElem?] at e
    rw [← e]
    show (decide (0 + 1 ≤ r.length + 1) && _) = (decide ((r.length + 1 - 1) + 1 ≤ r.length + 1) && _)
    rw [decide_eq_true (show 0 + 1 ≤ r.length + 1 by omega), decide_eq_true (show (r.length + 1 - 1) + 1 ≤ r.length + 1 by omega)]
    rfl
/-- digits only, and some -/
def digL (l : List Nat) : Bool := !l.isEmpty && l.all fun c => decide (48 ≤ c) && decide (c ≤ 57)
theorem dig_cls : ∀ c, c < 128 → Unicode.isDigit c = (decide (48 ≤ c) && decide (c ≤ 57)) := by decide +kernel
theorem asc_S (l : List Nat) : Txt.isascii (S l) = l.all (fun c => decide (c < 128)) := by
  show (S l).cps.all _ = _
  rw [← Array.all_toList]
theorem isd_S0 (l : List Nat) : Txt.isdigit (S l) = (decide ((S l).length > 0) && l.all Unicode.isDigit) := by
  show (_ && (S l).cps.all _) = _
  rw [← Array.all_toList]
theorem dig_asc {l : List Nat} (h : digL l = true) : Txt.isascii (S l) = true := by
  rw [asc_S, List.all_eq_true]
  intro c hc
  have := List.all_eq_true.mp (Bool.and_eq_true_iff.mp h).2 c hc
  simp at this
  simp
  omega
theorem isd_S {l : List Nat} (h : Txt.isascii (S l) = true) : Txt.isdigit (S l) = digL l := by
  rw [asc_S, List.all_eq_true] at h
  rw [isd_S0, SX.S_len]
  unfold digL
  congr 1
  · cases l <;> rfl
  · rw [Bool.eq_iff_iff, List.all_eq_true, List.all_eq_true]
    refine forall_congr' fun c => forall_congr' fun m => ?_
    rw [dig_cls c (by simpa using h c m)]
theorem dig_all {l : List Nat} (h : digL l = true) : ∀ c ∈ l, 48 ≤ c ∧ c ≤ 57 := fun c hc => by
  have := List.all_eq_true.mp (Bool.and_eq_true_iff.mp h).2 c hc
  simp at this
  exact this
theorem dig_ne {l : List Nat} (h : digL l = true) : l ≠ [] := fun e => by subst e; cases h
theorem dig_num (n : Nat) : digL (TL.numL n) = true := by
  unfold digL
  rw [Bool.and_eq_true]
  refine ⟨?_, List.all_eq_true.mpr fun c hc => ?_⟩
  · cases e : TL.numL n with
    | nil => exact absurd e (TL.numL_ne _)
    | cons a r => rfl
  · have := TL.numL_digits _ c hc
    simp
    omega
/-- the int of at most 60 digits that has a text -/
def numI (l : List Nat) : Option Int :=
  if l.head? = some 45 then (if digL l.tail = true ∧ l.tail.length ≤ 60 ∧ l.tail.head? ≠ some 48 then some (-((NumText.digitsVal l.tail : Nat) : Int)) else none)
  else if digL l = true ∧ l.length ≤ 60 ∧ (l.head? = some 48 → l = [48]) then some ((NumText.digitsVal l : Nat) : Int) else none
def numV : Option Int → V
  | none => .non
  | some i => .int i
theorem numI_itx {i : Int} (h : i.natAbs < 10 ^ 60) : numI (itx i) = some i := by
  have l := numL_len60 h
  have d := dig_num i.natAbs
  unfold itx
  split
  · have z : (TL.numL i.natAbs).head? ≠ some 45 := fun e => by
      have := TL.numL_digits i.natAbs 45 (List.mem_of_mem_head? e)
      omega
    have z2 : (TL.numL i.natAbs).head? = some 48 → TL.numL i.natAbs = [48] := fun e => by
      by_cases n0 : i.natAbs = 0
      · rw [n0]; rfl
      · exact absurd e (numL_zero _ n0)
    unfold numI
    rw [if_neg z, if_pos ⟨d, l, z2⟩, TL.numL_val]
    exact congrArg some (by omega)
  · unfold numI
    rw [if_pos (show (45 :: TL.numL i.natAbs).head? = some 45 from rfl)]
    show (if digL (TL.numL i.natAbs) = true ∧ (TL.numL i.natAbs).length ≤ 60 ∧ (TL.numL i.natAbs).head? ≠ some 48 then some (-((NumText.digitsVal (TL.numL i.natAbs) : Nat) : Int)) else none) = _
    rw [if_pos ⟨d, l, numL_zero _ (by omega)⟩, TL.numL_val]
    exact congrArg some (by omega)
theorem int_pos {l : List Nat} (d : digL l = true) (h : l.length ≤ 60) : PySem.intText? (S l) = some ((NumText.digitsVal l : Nat) : Int) :=
  intText_digits (x := S l) (dig_all d) (dig_ne d) (by rw [SX.S_len]; omega)
theorem int_neg {l : List Nat} (d : digL l = true) (h : l.length ≤ 60) : PySem.intText? (S (45 :: l)) = some (-((NumText.digitsVal l : Nat) : Int)) :=
  intText_neg (x := S (45 :: l)) (cs := l) rfl (dig_all d) (dig_ne d) (by rw [SX.S_len, List.length_cons]; omega)
/-! rules of texts -/
section
variable {X : Cx} {K : PySem.W.Frag} {H : Hp} {Q : VK} {σ : L2.St} {x y : PySem.Str} {b : Bool} {o e : Expr} {to te : TE} {apos pos : Pos}
def rSw : V → List V → Hp → VK → Prop := fun x xs H Q => ∃ a b, x = .str a ∧ xs = [.str b] ∧ Q (.bl (Txt.startswith a b)) H
def rEw : V → List V → Hp → VK → Prop := fun x xs H Q => ∃ a b, x = .str a ∧ xs = [.str b] ∧ Q (.bl (Txt.endswith a b)) H
def rIa : V → List V → Hp → VK → Prop := fun x xs H Q => ∃ a, x = .str a ∧ xs = [] ∧ True ∧ Q (.bl (Txt.isascii a)) H
def rId : V → List V → Hp → VK → Prop := fun x xs H Q => ∃ a, x = .str a ∧ xs = [] ∧ True ∧ Q (.bl (Txt.isdigit a)) H
def rSplit : V → List V → Hp → VK → Prop := fun x xs H Q => ∃ a b, x = .str a ∧ xs = [.str b] ∧ (b.length == 0) = false ∧ a.length + 2 ≤ sizeLine ∧ rNewStrs (Txt.split a b) H Q
theorem pe_sw (ho : PE X o to) (he : PE X e te) (hs : starEach [e] X.env = [(false, eval e X.env)] := by rfl) (hbase : attributeBase o "startswith" X.env (eval o X.env) = eval o X.env := by rfl) (hline : (apos.endLine == pos.line) = true := by rfl) :
    PE X (.Call (.Attribute o "startswith" apos) [e] [] pos) (tM1 rSw to te) := pe_m1 F.slot_str_startswith F.type_str_startswith mt_startswith ho he hs hbase hline
theorem pe_ew (ho : PE X o to) (he : PE X e te) (hs : starEach [e] X.env = [(false, eval e X.env)] := by rfl) (hbase : attributeBase o "endswith" X.env (eval o X.env) = eval o X.env := by rfl) (hline : (apos.endLine == pos.line) = true := by rfl) :
    PE X (.Call (.Attribute o "endswith" apos) [e] [] pos) (tM1 rEw to te) := pe_m1 F.slot_str_endswith F.type_str_endswith mt_endswith ho he hs hbase hline
theorem pe_sp (ho : PE X o to) (he : PE X e te) (hs : starEach [e] X.env = [(false, eval e X.env)] := by rfl) (hbase : attributeBase o "split" X.env (eval o X.env) = eval o X.env := by rfl) (hline : (apos.endLine == pos.line) = true := by rfl) :
    PE X (.Call (.Attribute o "split" apos) [e] [] pos) (tM1 rSplit to te) := pe_split ho he hs hbase hline
theorem pe_ia (ho : PE X o to) (hbase : attributeBase o "isascii" X.env (eval o X.env) = eval o X.env := by rfl) (hline : (apos.endLine == pos.line) = true := by rfl) :
    PE X (.Call (.Attribute o "isascii" apos) [] [] pos) (tM0 rIa to) := pe_m0 F.slot_str_isascii F.type_str_isascii mt_isascii ho hbase hline
theorem pe_id (ho : PE X o to) (hbase : attributeBase o "isdigit" X.env (eval o X.env) = eval o X.env := by rfl) (hline : (apos.endLine == pos.line) = true := by rfl) :
    PE X (.Call (.Attribute o "isdigit" apos) [] [] pos) (tM0 rId to) := pe_m0 F.slot_str_isdigit F.type_str_isdigit mt_isdigit ho hbase hline
def M0R (r : V → List V → Hp → VK → Prop) (x : V) (H : Hp) (Q : VK) : Prop := (∃ a, x = .str a) ∧ r x [] H Q
theorem g_m0 {r : V → List V → Hp → VK → Prop} (h : to σ H fun x H1 => M0R r x H1 Q) : tM0 r to σ H Q := h
theorem m0_at {r : V → List V → Hp → VK → Prop} (h : r (.str x) [] H Q) : M0R r (.str x) H Q := ⟨⟨x, rfl⟩, h⟩
theorem o_sw (e : Txt.startswith x y = b) (k : Q (.bl b) H) : rSw (.str x) [.str y] H Q := ⟨x, y, rfl, rfl, by rw [e]; exact k⟩
theorem o_ew (e : Txt.endswith x y = b) (k : Q (.bl b) H) : rEw (.str x) [.str y] H Q := ⟨x, y, rfl, rfl, by rw [e]; exact k⟩
theorem o_ia (e : Txt.isascii x = b) (k : Q (.bl b) H) : rIa (.str x) [] H Q := ⟨x, rfl, rfl, trivial, by rw [e]; exact k⟩
theorem o_id (e : Txt.isdigit x = b) (k : Q (.bl b) H) : rId (.str x) [] H Q := ⟨x, rfl, rfl, trivial, by rw [e]; exact k⟩
theorem o_split {ys : List PySem.Str} (e : Txt.split x y = ys) (h0 : (y.length == 0) = false) (hl : x.length ≤ 16000000) (k : ∀ p H', Fr H p → Same H H' → H' p = some (.lst (ys.map V.str)) → Q (.ref p) H') : rSplit (.str x) [.str y] H Q :=
  ⟨x, y, rfl, rfl, h0, by rw [sizeLine_eq]; omega, fun p hp => by rw [e]; exact k p _ ⟨hp⟩ (same_upd hp) upd_same⟩
def rLenS : List V → Hp → VK → Prop := fun xs H Q => ∃ s : PySem.Str, xs = [.str s] ∧ s.length ≤ sizeLine ∧ Q (.int s.length) H
theorem c_lenS : CallR X (.builtin "len") rLenS := fun pins s σ H xs us Q I rs h => by
  obtain ⟨a, rfl, hz, q⟩ := h
  exact call_len pins s σ H _ us Q I rs ⟨_, _, rfl, ⟨hz, rfl⟩, q⟩
theorem b_lens {l : List Nat} (h : l.length ≤ 16000000) (k : Q (.int l.length) H) : rLenS [.str (S l)] H Q := ⟨_, rfl, by rw [SX.S_len, sizeLine_eq]; omega, by rw [SX.S_len]; exact k⟩
def rIntS : List V → Hp → VK → Prop := fun xs H Q => ∃ a n, xs = [.str a] ∧ PySem.intText? a = some n ∧ a.length ≤ 640 ∧ Q (.int n) H
theorem c_intS : CallR X (.type "int") rIntS := call_int_str
theorem b_ints {l : List Nat} {n : Int} (e : PySem.intText? (S l) = some n) (h : l.length ≤ 640) (k : Q (.int n) H) : rIntS [.str (S l)] H Q := ⟨_, n, rfl, e, by rw [SX.S_len]; exact h, k⟩
theorem o_slx {lo hi : Option Int} {z : PySem.Str} (e : Txt.slice x lo hi = z) (h : x.length ≤ 16000000) (k : Q (.str z) H) : C8.rSlX (.str x) lo hi H Q := ⟨x, rfl, by rw [sizeLine_eq]; omega, by rw [e]; exact k⟩
theorem in_none3 {a : Addr} {p q r : Option Int} (h1 : H a = some (.tup [numV p, numV q, numV r])) (k : Q (.bl (decide (p = none ∨ q = none ∨ r = none))) H) : rIn K false .non (.ref a) H Q := by
  refine ⟨a, _, rfl, .inr (SqT.of h1), rfl, ?_, ?_⟩
  · cases p <;> cases q <;> cases r <;> rfl
  · have e : inV .non [numV p, numV q, numV r] = decide (p = none ∨ q = none ∨ r = none) := by
      cases p <;> cases q <;> cases r <;> simp [inV, numV, eqV]
    show Q (.bl (inV .non [numV p, numV q, numV r])) H
    rw [e]
    exact k
end
/-! the text of a rule -/
def ruleL (a b d : Int) : List Nat := itx a ++ [114] ++ ([32, 43, 32] ++ (itx b ++ [99] ++ ([32, 43, 32] ++ itx d)))
theorem ruleL_split (a b d : Int) : Txt.split (S (ruleL a b d)) (S [32, 43, 32]) = [S (itx a ++ [114]), S (itx b ++ [99]), S (itx d)] := by
  have f : ∀ (i : Int) (c : Nat), c ≠ 32 → 32 ∉ itx i ++ [c] := fun i c h m => by
    rcases List.mem_append.mp m with m | m
    · exact itx_free (by decide) (.inl (by decide)) m
    · exact h (List.mem_singleton.mp m).symm
  rw [SX.split_S (by decide) (by decide)]
  unfold ruleL
  rw [TL.spl_part1 (f a 114 (by decide)), TL.spl_part1 (f b 99 (by decide)), TL.spl_last1 (itx_free (by decide) (.inl (by decide)))]
  rfl
theorem itx_len {i : Int} (h : i.natAbs < 10 ^ 60) : (itx i).length ≤ 61 := by
  have := numL_len60 h
  unfold itx
  split
  · omega
  · rw [List.length_cons]; omega
theorem ruleL_len {a b d : Int} (ha : a.natAbs < 10 ^ 60) (hb : b.natAbs < 10 ^ 60) (hd : d.natAbs < 10 ^ 60) : (ruleL a b d).length ≤ 1000 := by
  have := itx_len ha
  have := itx_len hb
  have := itx_len hd
  unfold ruleL
  simp only [List.length_append, List.length_cons, List.length_nil]
  omega
end L3

set_option Elab.async false
set_option linter.all false
set_option maxRecDepth 100000
set_option maxHeartbeats 2000000
/-! texts, sign by sign: comprehensions over them, one within another, repeated; slices of any kind; lists of texts compared. -/
namespace L3
open PySem L2 PyProof.Rows
section
variable {K : PySem.W.Frag} {σ : L2.St} {H : Hp} {Q : VK} {te tl : TE} {g : TG} {tt : TT} {vs : List Nat}
def LcS (g : TG) (tt : TT) (te : TE) (vs : List Nat) (σ : L2.St) (x : V) (H1 : Hp) (Q : VK) : Prop := ∃ z, x = .str z ∧ ∀ D, H1 D = none → ∃ W : Nat → Nat → Hp → Prop, (∃ m, W 0 m (upd H1 D (.lst []))) ∧ ∀ i m H, W i m H →
  ((Its z).stop i H ∧ Q (.ref D) H) ∨ ((Its z).go i H ∧ ∃ Nx : Hp → Prop, (∀ H', Nx H' → ∃ m', m' < m ∧ W (i + 1) m' H') ∧ ∀ x H', (Its z).yld i H x H' → g x (wipe σ vs) H' fun σ2 H2 => wipe σ2 vs = wipe σ vs ∧ tt σ2 H2 fun b H3 =>
    if b = true then te σ2 H3 fun y H4 => ∃ acc, H4 D = some (.lst acc) ∧ acc.length < sizeLine ∧ Nx (upd H4 D (.lst (acc ++ [y]))) else Nx H3)
theorem g_lcs (h : tl σ H fun x H1 => LcS g tt te vs σ x H1 Q) : tLc (iStr tl) g tt te vs σ H Q := h
theorem fm_take {α β : Type} {f : α → Option β} {l : List α} {i : Nat} {x : α} (h : l[i]? = some x) : (l.take (i + 1)).filterMap f = (l.take i).filterMap f ++ (match f x with | some y => [y] | none => []) := by
  rw [List.take_add_one, h, List.filterMap_append]
  congr 1
  show List.filterMap f [x] = _
  rw [List.filterMap_cons]
  cases f x <;> rfl
theorem lcs_fun {l : List Nat} (f : Nat → Option V) (hz : l.length ≤ 100000)
    (hs : ∀ c ∈ l, ∀ H1, Same H H1 → ∀ R : Option V → Hp → Prop, (∀ H2, Same H1 H2 → R (f c) H2) → LcT g tt te vs σ (.str (S [c])) H1 R)
    (k : ∀ D H', Fr H D → Same H H' → H' D = some (.lst (l.filterMap f)) → Q (.ref D) H') : LcS g tt te vs σ (.str (S l)) H Q := by
  have ec : ∀ i : Nat, (S l).cps[i]? = l[i]? := fun i => by simp [S, SX.S]
  have es : (S l).cps.size = l.length := by simp [S, SX.S]
  refine ⟨S l, rfl, fun D hD => lc_it (walk_str (z := S l)) (fun i H' => i ≤ l.length ∧ Same H H' ∧ H' D = some (.lst ((l.take i).filterMap f))) ⟨Nat.zero_le _, same_upd hD, upd_same⟩ (fun i H' _ _ => trivial) ?_ ?_⟩
  · rintro i x H0 H1 hi ⟨_, sH, eD⟩ ⟨rfl, c, hc, rfl⟩
    rw [ec] at hc
    rw [es] at hi
    refine hs c (List.mem_of_getElem? hc) H1 sH (fun o H4 => match o with
      | some y => ∃ acc, H4 D = some (.lst acc) ∧ acc.length < sizeLine ∧ (i + 1 ≤ l.length ∧ Same H (upd H4 D (.lst (acc ++ [y]))) ∧ (upd H4 D (.lst (acc ++ [y]))) D = some (.lst ((l.take (i + 1)).filterMap f)))
      | none => i + 1 ≤ l.length ∧ Same H H4 ∧ H4 D = some (.lst ((l.take (i + 1)).filterMap f))) fun H2 s2 => ?_
    have tk := fm_take (f := f) hc
    cases e : f c with
    | none =>
      rw [e] at tk
      exact ⟨hi, sH.trans s2, by rw [tk, List.append_nil]; exact s2 _ _ eD⟩
    | some y =>
      rw [e] at tk
      refine ⟨_, s2 _ _ eD, ?_, hi, fun b o q => ?_, by rw [upd_same, tk]⟩
      · have l1 := List.length_filterMap_le f (l.take i)
        rw [List.length_take] at l1
        exact Nat.lt_of_le_of_lt (by omega : _ ≤ 100000) (by decide)
      · rw [upd_ne (ne_of_none q hD)]
        exact s2 _ _ (sH _ _ q)
  · rintro H1 ⟨_, sH, eD⟩
    rw [es, List.take_length] at eD
    exact k D H1 ⟨hD⟩ sH eD
def rNinS : R2 := fun x y H Q => ∃ i j, x = .str i ∧ y = .str j ∧ Q (.bl (!(!(Builtin.Str.occurrences j i 0 j.length 1).isEmpty))) H
theorem op_ninS {X : Cx} : OpR X (compareOp .NotIn) rNinS := op_notin_str
theorem o_nins {l : List Nat} {c : Nat} (k : Q (.bl (!decide (c ∈ l))) H) : rNinS (.str (S [c])) (.str (S l)) H Q := ⟨_, _, rfl, rfl, by rw [SX.in_one]; exact k⟩
/-- a text, repeated -/
def rMulS : R2 := fun x y H Q => ∃ a k, x = .str a ∧ y = .int k ∧ 2 ≤ k ∧ k ≤ 100000 ∧ 1 ≤ a.length ∧ a.length ≤ 100 ∧ Q (.str (Txt.mul a k)) H
theorem op_mulS {X : Cx} : OpR X (binaryOp .Mult) rMulS := by
  intro pins s σ H x y v u Q I rx ry h
  obtain ⟨a, k, rfl, rfl, k1, k2, a1, a2, q⟩ := h
  obtain ⟨t, rfl⟩ := rx
  obtain ⟨t', rfl⟩ := ry
  refine PySem.SB.mul ⟨?_, fun _ _ => ?_, fun _ _ => ?_⟩ fun t' j => ⟨.str (Txt.mul a k), H, I.tok j, ⟨_, rfl⟩, q⟩
  · rw [decide_eq_false (by omega), decide_eq_false (by omega)]; rfl
  · have : (100000 : Int) ≤ (2 ^ 63 - 1) / k := (Int.le_ediv_iff_mul_le (by omega)).mpr (by omega)
    omega
  · have h1 : k.toNat ≤ 100000 := by omega
    have h2 : a.length * k.toNat ≤ 100 * 100000 := Nat.mul_le_mul a2 h1
    exact PyProof.Rows.short24 (by omega)
theorem o_nin10 {c : Nat} (k : Q (.bl (!decide (48 ≤ c ∧ c ≤ 57))) H) : rNinS (.str (S [c])) (.str "0123456789") H Q := by
  have e : ("0123456789" : PySem.Str) = S [48, 49, 50, 51, 52, 53, 54, 55, 56, 57] := by decide +kernel
  rw [e]
  refine o_nins ?_
  have e2 : decide (c ∈ [48, 49, 50, 51, 52, 53, 54, 55, 56, 57]) = decide (48 ≤ c ∧ c ≤ 57) := by
    rw [Bool.eq_iff_iff, decide_eq_true_iff, decide_eq_true_iff]
    simp only [List.mem_cons, List.not_mem_nil, or_false]
    omega
  rw [e2]
  exact k
theorem ixs0 {c : Nat} {t : List Nat} (h : t.length ≤ 1000000) (k : Q (.str (S [c])) H) : rIx K (.str (S (c :: t))) (.int 0) H Q :=
  .inr (.inr ⟨S (c :: t), 0, c, rfl, rfl, by rw [SX.S_len, List.length_cons, sizeLine_eq]; omega, by simp [atI, ixN, S, SX.S], k⟩)
/-- texts that can be compared within lists, of a length -/
structure TK (n : Nat) (x : PySem.Str) : Prop where
  len : x.length ≤ n
  ok : PyData.strOk x = true
theorem ok_S {l : List Nat} : PyData.strOk (S l) = true ↔ ∀ c ∈ l, c < 1114112 := by
  show ((S l).cps.all _) = true ↔ _
  rw [← Array.all_toList, List.all_eq_true]
  show (∀ c ∈ l, decide (c < 1114112) = true) ↔ _
  simp only [decide_eq_true_iff]
theorem TK.of {n : Nat} {l : List Nat} (h : l.length ≤ n) (k : ∀ c ∈ l, c < 1114112) : TK n (S l) := ⟨by rw [SX.S_len]; exact h, ok_S.mpr k⟩
theorem TK.lit {x : PySem.Str} (h1 : x.length ≤ 100) (h2 : PyData.strOk x = true) : TK 100 x := ⟨h1, h2⟩
theorem TK.mono {a b : Nat} {x : PySem.Str} (h : TK a x) (k : a ≤ b) : TK b x := ⟨Nat.le_trans h.len k, h.ok⟩
theorem TK.ex {n : Nat} {x : PySem.Str} (h : TK n x) : ∃ l, x = S l ∧ l.length ≤ n ∧ ∀ c ∈ l, c < 1114112 := by
  have e := SX.S_tl x
  have h1 := h.len
  have h2 := h.ok
  rw [← e] at h1 h2
  exact ⟨x.cps.toList, e.symm, by rw [SX.S_len] at h1; exact h1, ok_S.mp h2⟩
theorem TK.app {a b : Nat} {x y : PySem.Str} (hx : TK a x) (hy : TK b y) : TK (a + b) (x ++ y) := by
  obtain ⟨l, rfl, l1, l2⟩ := hx.ex
  obtain ⟨m, rfl, m1, m2⟩ := hy.ex
  rw [show S l ++ S m = S (l ++ m) from SX.S_cat l m]
  refine .of (by rw [List.length_append]; omega) fun c hc => ?_
  rcases List.mem_append.mp hc with h | h
  · exact l2 c h
  · exact m2 c h
theorem TK.sl {n : Nat} {x : PySem.Str} {lo hi : Option Int} (h : TK n x) : TK n (Txt.slice x lo hi) := by
  obtain ⟨l, rfl, l1, l2⟩ := h.ex
  rw [← C8.cutS_slice]
  have e : cutS (S l) lo hi = S ((l.drop (HT.sIx (S l).length 0 lo)).take (HT.sIx (S l).length (S l).length hi - HT.sIx (S l).length 0 lo)) := rfl
  rw [e]
  refine .of ?_ fun c hc => l2 c (List.mem_of_mem_drop (List.mem_of_mem_take hc))
  rw [List.length_take, List.length_drop]
  omega
theorem TK.tx {i : Int} (h : Sz 1900 i) : TK 1901 (tx i) := ⟨TL.int h, by
  rw [tx_S]
  refine ok_S.mpr fun c hc => ?_
  have := itx_signs hc
  omega⟩
theorem TK.mul {c : Nat} {k : Int} (h : c < 1114112) (k2 : k ≤ 1000) : TK 1000 (Txt.mul (S [c]) k) := by
  have e : Txt.mul (S [c]) k = S (List.replicate k.toNat c) := TL.ext_tl (PyProof.Rows.mul_one_list c k)
  rw [e]
  refine .of (by rw [List.length_replicate]; omega) fun d hd => ?_
  rw [List.eq_of_mem_replicate hd]
  exact h
/-- what stands in a text and is no digit -/
def dgF (c : Nat) : Option V := if 48 ≤ c ∧ c ≤ 57 then none else some (.str (S [c]))
theorem dgF_nil {l : List Nat} (h : digL l = true) : l.filterMap dgF = [] := by
  rw [List.filterMap_eq_nil_iff]
  intro c hc
  exact if_pos (dig_all h c hc)
theorem dgF_strs : ∀ l : List Nat, (∀ c ∈ l, c < 1114112) → ∃ xs : List PySem.Str, l.filterMap dgF = xs.map V.str ∧ ∀ x ∈ xs, PyData.strOk x = true
  | [], _ => ⟨[], rfl, fun _ h => (List.not_mem_nil h).elim⟩
  | c :: l, h => by
    obtain ⟨xs, e, o⟩ := dgF_strs l fun d m => h d (List.mem_cons_of_mem _ m)
    rw [List.filterMap_cons]
    by_cases hc : 48 ≤ c ∧ c ≤ 57
    · rw [show dgF c = none from if_pos hc]; exact ⟨xs, e, o⟩
    · rw [show dgF c = some (.str (S [c])) from if_neg hc]
      refine ⟨S [c] :: xs, by rw [e]; rfl, fun x m => ?_⟩
      rcases List.mem_cons.mp m with rfl | m
      · exact ok_S.mpr fun d hd => by rw [List.mem_singleton.mp hd]; exact h c List.mem_cons_self
      · exact o x m
theorem dgF_some {l : List Nat} (h0 : l ≠ []) (hd : ¬ digL l = true) (hk : ∀ c ∈ l, c < 1114112) : ∃ (x : PySem.Str) (xs : List PySem.Str), l.filterMap dgF = V.str x :: xs.map V.str ∧ ∀ y ∈ x :: xs, PyData.strOk y = true := by
  obtain ⟨xs, e, o⟩ := dgF_strs l hk
  cases xs with
  | cons x xs => exact ⟨x, xs, e, o⟩
  | nil =>
    exfalso
    refine hd ?_
    have z := List.filterMap_eq_nil_iff.mp e
    unfold digL
    rw [Bool.and_eq_true]
    refine ⟨by cases l with | nil => exact absurd rfl h0 | cons => rfl, List.all_eq_true.mpr fun c hc => ?_⟩
    have := z c hc
    unfold dgF at this
    split at this
    · rename_i h; rw [decide_eq_true h.1, decide_eq_true h.2]; rfl
    · cases this
theorem dp_strs : ∀ l : List PySem.Str, DpAll K H (l.map V.str) (l.map PyData.str)
  | [] => .nil
  | x :: l => .cons (.str x) (dp_strs l)
theorem lay_strs : ∀ l : List PySem.Str, (∀ x ∈ l, PyData.strOk x = true) → PyData.canLayAll0 (l.map PyData.str) = true
  | [], _ => by simp [PyData.canLayAll0]
  | x :: l, h => by simp [PyData.canLayAll0, PyData.canLay0, lay_strs l fun y m => h y (List.mem_cons_of_mem _ m), h x List.mem_cons_self]
theorem depth_strs : ∀ l : List PySem.Str, PyData.depthAll (l.map PyData.str) ≤ 1
  | [] => by simp [PyData.depthAll]
  | x :: l => by
    have h1 := depth_strs l
    simp only [List.map_cons, PyData.depthAll, PyData.depth]
    omega
theorem shaped_strs {l : List PySem.Str} (h : ∀ x ∈ l, PyData.strOk x = true) : SeqAt.shaped (.list (l.map PyData.str)) = true := by
  have h1 := depth_strs l
  have h2 : PyData.depth (.list (l.map PyData.str)) ≤ 64 := by
    simp only [PyData.depth]
    omega
  show (PyData.canLay0 (.list (l.map PyData.str)) && decide (PyData.depth (.list (l.map PyData.str)) ≤ 64)) = true
  rw [Bool.and_eq_true]
  exact ⟨by simp only [PyData.canLay0]; exact lay_strs l h, decide_eq_true h2⟩
/-- a list that is not empty, and the empty one -/
theorem o_ne0 {a b : Addr} {x : V} {xs : List V} {d : PyData} {ds : List PyData} (h1 : H a = some (.lst (x :: xs))) (h2 : H b = some (.lst [])) (hd : DpAll K H (x :: xs) (d :: ds)) (hs : SeqAt.shaped (.list (d :: ds)) = true) (k : Q (.bl true) H) : rNeD K (.ref a) (.ref b) H Q :=
  ⟨.list (d :: ds), .list [], .lst (SqL.of h1) hd, .lst (SqL.of h2) .nil, hs, rfl, by rw [PyData.eqv, PyData.eqvAll]; exact k⟩
theorem o_nstr {a b : Addr} {x : PySem.Str} {xs : List PySem.Str} (h1 : H a = some (.lst (V.str x :: xs.map V.str))) (ho : ∀ y ∈ x :: xs, PyData.strOk y = true) (h2 : H b = some (.lst [])) (k : Q (.bl true) H) : rNeD K (.ref a) (.ref b) H Q :=
  o_ne0 (d := PyData.str x) (ds := xs.map PyData.str) h1 h2 (dp_strs (x :: xs)) (shaped_strs ho) k
/-- two lists of the same texts -/
theorem o_eqstr {a b : Addr} {xs : List PySem.Str} (h1 : H a = some (.lst (xs.map V.str))) (ho : ∀ y ∈ xs, PyData.strOk y = true) (h2 : H b = some (.lst (xs.map V.str))) (k : Q (.bl true) H) : rEqD K (.ref a) (.ref b) H Q :=
  o_eqd (.lst (SqL.of h1) (dp_strs xs)) (.lst (SqL.of h2) (dp_strs xs)) (shaped_strs ho) k
/-! slices of any text -/
theorem o_sla {n : Nat} {x : PySem.Str} {lo hi : Option Int} (h : TK n x) (hn : n ≤ 16000000) (k : Q (.str (Txt.slice x lo hi)) H) : C8.rSlX (.str x) lo hi H Q := ⟨x, rfl, by have : x.length ≤ n := h.len; rw [sizeLine_eq]; omega, k⟩
theorem o_addk {a b : Nat} {x y : PySem.Str} (ha : TK a x) (hb : TK b y) (h : a + b ≤ 16777216) (k : Q (.str (x ++ y)) H) : rAddS (.str x) (.str y) H Q := o_adds ha.len hb.len h k
theorem o_mulk {x : PySem.Str} {k : Int} (h : TK 100 x) (h1 : 1 ≤ x.length) (k1 : 2 ≤ k) (k2 : k ≤ 1000) (q : Q (.str (Txt.mul x k)) H) : rMulS (.str x) (.int k) H Q := ⟨x, k, rfl, rfl, k1, by omega, h1, h.len, q⟩
theorem b_lena {n : Nat} {x : PySem.Str} (h : TK n x) (hn : n ≤ 16000000) (k : Q (.int x.length) H) : rLenS [.str x] H Q := ⟨x, rfl, by have : x.length ≤ n := h.len; rw [sizeLine_eq]; omega, k⟩
end
/-! a rule's text, read -/
def readL (l : List Nat) : Option (Int × Int × Int) :=
  match TL.spl [32, 43, 32] 0 [] l with
  | [u, v, w] => if u.getLast? = some 114 ∧ v.getLast? = some 99 then (match numI u.dropLast, numI v.dropLast, numI w with | some a, some b, some d => some (a, b, d) | _, _, _ => none) else none
  | _ => none
theorem spl_mem (T : List Nat) : ∀ (r : List Nat) (j : Nat) (acc p : List Nat), p ∈ TL.spl T j acc r → p.length ≤ acc.length + r.length ∧ ∀ c ∈ p, c ∈ acc ∨ c ∈ r
  | [], j, acc, p, h => by
    rw [TL.spl_nil, List.mem_singleton] at h
    subst h
    exact ⟨Nat.le_refl _, fun c m => .inl m⟩
  | c :: r, 0, acc, p, h => by
    show _
    unfold TL.spl at h
    split at h
    · rcases List.mem_cons.mp h with rfl | h
      · exact ⟨Nat.le_add_right _ _, fun c m => .inl m⟩
      · obtain ⟨h1, h2⟩ := spl_mem T r _ _ _ h
        refine ⟨by simp at h1 ⊢; omega, fun d m => ?_⟩
        rcases h2 d m with m | m
        · exact (List.not_mem_nil m).elim
        · exact .inr (List.mem_cons_of_mem _ m)
    · obtain ⟨h1, h2⟩ := spl_mem T r _ _ _ h
      refine ⟨by simp at h1 ⊢; omega, fun d m => ?_⟩
      rcases h2 d m with m | m
      · rcases List.mem_append.mp m with m | m
        · exact .inl m
        · rw [List.mem_singleton.mp m]; exact .inr List.mem_cons_self
      · exact .inr (List.mem_cons_of_mem _ m)
  | c :: r, j + 1, acc, p, h => by
    unfold TL.spl at h
    obtain ⟨h1, h2⟩ := spl_mem T r _ _ _ h
    refine ⟨by rw [List.length_cons]; omega, fun d m => ?_⟩
    rcases h2 d m with m | m
    · exact .inl m
    · exact .inr (List.mem_cons_of_mem _ m)
theorem split3 (l : List Nat) : Txt.split (S l) (S [32, 43, 32]) = (TL.spl [32, 43, 32] 0 [] l).map S := SX.split_S (by decide) (by decide)
theorem cut_last {u : List Nat} {c : Nat} (h : u.getLast? = some c) : Txt.slice (S u) none (some (-1)) = S u.dropLast := by
  have : u ≠ [] := fun e => by subst e; cases h
  rw [SX.slice_butlast this, List.dropLast_eq_take]
theorem last_one {u : List Nat} : Txt.slice (S u) (some (-1)) none = S (match u.getLast? with | some c => [c] | none => []) := by
  by_cases h : u = []
  · subst h; decide +kernel
  · rw [SX.slice_last h]
    congr 1
    rw [List.getLast?_eq_some_getLast h]
    obtain ⟨p, c, rfl⟩ : ∃ p c, u = p ++ [c] := ⟨_, _, (List.dropLast_concat_getLast h).symm⟩
    simp
def lastL (u : List Nat) : List Nat := match u.getLast? with | some c => [c] | none => []
theorem last_is (u : List Nat) : Txt.slice (S u) (some (-1)) none = S (lastL u) := last_one
theorem lastL_ne {u : List Nat} {c : Nat} (h : ¬ u.getLast? = some c) : lastL u ≠ [c] := by
  unfold lastL
  cases e : u.getLast? with
  | none => intro q; cases q
  | some d => intro q; exact h (by rw [e, (List.cons.inj q).1])
theorem lastL_eq {u : List Nat} {c : Nat} (h : u.getLast? = some c) : lastL u = [c] := by unfold lastL; rw [h]
theorem read_three {l u v w : List Nat} (e : TL.spl [32, 43, 32] 0 [] l = [u, v, w]) : readL l = if u.getLast? = some 114 ∧ v.getLast? = some 99 then (match numI u.dropLast, numI v.dropLast, numI w with | some a, some b, some d => some (a, b, d) | _, _, _ => none) else none := by
  unfold readL
  rw [e]
theorem read_yes {l u v w : List Nat} {a b d : Int} (e : TL.spl [32, 43, 32] 0 [] l = [u, v, w]) (h1 : u.getLast? = some 114) (h2 : v.getLast? = some 99) (ea : numI u.dropLast = some a) (eb : numI v.dropLast = some b) (ed : numI w = some d) : readL l = some (a, b, d) := by
  rw [read_three e, if_pos ⟨h1, h2⟩, ea, eb, ed]
theorem read_no {l u v w : List Nat} (e : TL.spl [32, 43, 32] 0 [] l = [u, v, w]) (h : ¬ u.getLast? = some 114 ∨ ¬ v.getLast? = some 99 ∨ numI u.dropLast = none ∨ numI v.dropLast = none ∨ numI w = none) : readL l = none := by
  rw [read_three e]
  split
  · rename_i q
    rcases h with h | h | h | h | h
    · exact absurd q.1 h
    · exact absurd q.2 h
    · rw [h]
    · rw [h]; cases numI u.dropLast <;> rfl
    · rw [h]; cases numI u.dropLast <;> cases numI v.dropLast <;> rfl
  · rfl
theorem read_many {l : List Nat} (h : (TL.spl [32, 43, 32] 0 [] l).length ≠ 3) : readL l = none := by
  unfold readL
  split
  · rename_i e; rw [e] at h; exact absurd rfl h
  · rfl
def WordsR (p q r : Option Int) (H : Hp) (R : V) : Prop := (∃ a b d D, p = some a ∧ q = some b ∧ r = some d ∧ R = .ref D ∧ H D = some (.lst [.int a, .int b, .int d])) ∨ ((p = none ∨ q = none ∨ r = none) ∧ R = .non)
def RuleR (o : Option (Int × Int × Int)) (H : Hp) (R : V) : Prop := (∃ a b d D, o = some (a, b, d) ∧ R = .ref D ∧ H D = some (.lst [.int a, .int b, .int d])) ∨ (o = none ∧ R = .non)
theorem words_rule {l u v w : List Nat} {H : Hp} {R : V} (e : TL.spl [32, 43, 32] 0 [] l = [u, v, w]) (h1 : u.getLast? = some 114) (h2 : v.getLast? = some 99) (h : WordsR (numI u.dropLast) (numI v.dropLast) (numI w) H R) : RuleR (readL l) H R := by
  rcases h with ⟨a, b, d, D, ea, eb, ed, rfl, hD⟩ | ⟨h, rfl⟩
  · exact .inl ⟨a, b, d, D, read_yes e h1 h2 ea eb ed, rfl, hD⟩
  · exact .inr ⟨read_no e (.inr (.inr h)), rfl⟩
theorem okl_cut {u : List Nat} (h : u.length ≤ 100000) : u.dropLast.length ≤ 100000 := by rw [List.length_dropLast]; omega
theorem okc_cut {u : List Nat} (h : ∀ c ∈ u, c < 1114112) : ∀ c ∈ u.dropLast, c < 1114112 := fun c m => h c (List.dropLast_subset _ m)
section
variable {K : PySem.W.Frag} {H : Hp} {Q : VK}
theorem o_ixk {n : Nat} {x : PySem.Str} {i : Int} (h : TK n x) (hn : n ≤ 16000000) (h0 : 0 ≤ i) (h1 : i < x.length) (k : ∀ z, TK 1 z → Q (.str z) H) : rIx K (.str x) (.int i) H Q := by
  obtain ⟨l, rfl, l1, l2⟩ := h.ex
  rw [SX.S_len] at h1
  have hi : i.toNat < l.length := by omega
  have e : atI (S l).cps.toList i = some l[i.toNat] := by
    show (ixN l.length i).bind (fun j => l[j]?) = _
    unfold ixN
    rw [if_pos h0, if_pos h1]
    exact List.getElem?_eq_getElem hi
  exact .inr (.inr ⟨S l, i, _, rfl, rfl, by rw [SX.S_len, sizeLine_eq]; omega, e, k (S [l[i.toNat]]) (.of (Nat.le_refl 1) fun c hc => by rw [List.mem_singleton.mp hc]; exact l2 _ (List.getElem_mem hi))⟩)
theorem o_mul7 {k : Int} (k1 : 2 ≤ k) (k2 : k ≤ 1000) (q : ∀ z, TK 1000 z → Q (.str z) H) : rMulS (.str "7") (.int k) H Q :=
  o_mulk (x := S [55]) (.mono (.of (Nat.le_refl 1) (by simp)) (by decide)) (by rw [SX.S_len]; decide) k1 k2 (q _ (TK.mul (by decide) k2))
end
end L3

set_option Elab.async false
set_option linter.all false
set_option maxRecDepth 100000
set_option maxHeartbeats 2000000
/-! comprehensions whose items are new objects, or None. -/
namespace L3
open PySem L2 PyProof.Rows
/-- a new object (H0: where it did not stand yet), or None -/
def May (o : Option HO) (H0 H : Hp) (v : V) : Prop := (∃ q u, o = some u ∧ v = .ref q ∧ Fr H0 q ∧ H q = some u) ∨ (o = none ∧ v = .non)
def refOf : V → Option Addr
  | .ref q => some q
  | _ => none
section
variable {H : Hp} {Q : VK} {g : TG} {tt : TT} {te : TE} {vs : List Nat} {σ : L2.St}
theorem lc_may {xs : List V} {a : Addr} {K : PySem.W.Frag} (f : Nat → Option HO) (h1 : SqL K H a xs) (hz : xs.length ≤ 100000)
    (hs : ∀ (i : Nat) x, xs[i]? = some x → ∀ H1, Same H H1 → ∀ Z : Option V → Hp → Prop, (∀ v H2, Same H1 H2 → May (f i) H1 H2 v → Z (some v) H2) → LcT g tt te vs σ x H1 Z)
    (k : ∀ D (us : List V) H', Fr H D → Same H H' → us.length = xs.length → (us.filterMap refOf).Nodup → D ∉ us.filterMap refOf → (∀ (i : Nat) v, us[i]? = some v → May (f i) H H' v) → H' D = some (.lst us) → Q (.ref D) H') : LcL K g tt te vs σ (.ref a) H Q := by
  refine ⟨a, rfl, ⟨xs, h1⟩, fun D hD => lc_list (xs := xs) (fun i H' => i ≤ xs.length ∧ Same H H' ∧ ∃ us : List V, us.length = i ∧ (us.filterMap refOf).Nodup ∧ D ∉ us.filterMap refOf ∧ (∀ (j : Nat) v, us[j]? = some v → May (f j) H H' v) ∧ H' D = some (.lst us))
    ⟨Nat.zero_le _, same_upd hD, [], rfl, List.nodup_nil, List.not_mem_nil, fun j v h => by simp at h, upd_same⟩ (fun i H' _ q => q.2.1.seq h1) ?_ ?_⟩
  · rintro i x H1 hx ⟨hi, sH, us, hl, hn, hDq, hq, eD⟩
    have hlt : i < xs.length := (List.getElem?_eq_some_iff.mp hx).1
    refine hs i x hx H1 sH (fun o H4 => match o with
      | some y => ∃ acc, H4 D = some (.lst acc) ∧ acc.length < sizeLine ∧ (i + 1 ≤ xs.length ∧ Same H (upd H4 D (.lst (acc ++ [y]))) ∧ ∃ us : List V, us.length = i + 1 ∧ (us.filterMap refOf).Nodup ∧ D ∉ us.filterMap refOf ∧ (∀ (j : Nat) v, us[j]? = some v → May (f j) H (upd H4 D (.lst (acc ++ [y]))) v) ∧ (upd H4 D (.lst (acc ++ [y]))) D = some (.lst us))
      | none => i + 1 ≤ xs.length ∧ Same H H4 ∧ ∃ us : List V, us.length = i + 1 ∧ (us.filterMap refOf).Nodup ∧ D ∉ us.filterMap refOf ∧ (∀ (j : Nat) v, us[j]? = some v → May (f j) H H4 v) ∧ H4 D = some (.lst us)) fun v H2 s2 m2 => ?_
    have old : ∀ (q : Addr) (u : HO), Fr H q → H1 q = some u → q ≠ D → (upd H2 D (.lst (us ++ [v]))) q = some u := fun q u _ e n => by
      rw [upd_ne n]; exact s2 _ _ e
    have inus : ∀ q, q ∈ us.filterMap refOf → ∃ u, Fr H q ∧ H1 q = some u := fun q m => by
      obtain ⟨w, hw, e⟩ := List.mem_filterMap.mp m
      obtain ⟨n, hn2, e2⟩ := List.getElem_of_mem hw
      rcases hq n w (by rw [List.getElem?_eq_getElem hn2, e2]) with ⟨q', u, _, rfl, fq, hq'⟩ | ⟨_, rfl⟩
      · cases e
        exact ⟨u, fq, hq'⟩
      · cases e
    refine ⟨us, s2 _ _ eD, ?_, hlt, fun b o e => ?_, us ++ [v], by rw [List.length_append, hl]; rfl, ?_, ?_, ?_, upd_same⟩
    · rw [hl]
      exact Nat.lt_of_le_of_lt (by omega : _ ≤ 100000) (by decide)
    · rw [upd_ne (ne_of_none e hD)]
      exact s2 _ _ (sH _ _ e)
    · rw [List.filterMap_append, List.nodup_append]
      refine ⟨hn, ?_, fun q1 m1 q2 m2' => ?_⟩
      · rcases m2 with ⟨q, u, _, rfl, _, _⟩ | ⟨_, rfl⟩
        · exact List.nodup_cons.mpr ⟨List.not_mem_nil, List.nodup_nil⟩
        · exact List.nodup_nil
      · rcases m2 with ⟨q, u, _, rfl, fq, _⟩ | ⟨_, rfl⟩
        · simp [refOf] at m2'
          subst m2'
          obtain ⟨w, _, hw⟩ := inus q1 m1
          intro e
          subst e
          rw [fq.out] at hw
          cases hw
        · simp [refOf] at m2'
    · intro m
      rw [List.filterMap_append] at m
      rcases List.mem_append.mp m with m | m
      · exact hDq m
      · rcases m2 with ⟨q, u, _, rfl, fq, _⟩ | ⟨_, rfl⟩
        · simp [refOf] at m
          subst m
          rw [fq.out] at eD
          cases eD
        · simp [refOf] at m
    · intro j w e
      by_cases hj : j < us.length
      · rw [List.getElem?_append_left hj] at e
        rcases hq j w e with ⟨q, u, e1, rfl, fq, hq'⟩ | ⟨e1, rfl⟩
        · refine .inl ⟨q, u, e1, rfl, fq, old q u fq hq' fun z => ?_⟩
          exact hDq (List.mem_filterMap.mpr ⟨_, List.mem_of_getElem? e, by rw [z]; rfl⟩)
        · exact .inr ⟨e1, rfl⟩
      · have hj2 : j = i := by
          have := (List.getElem?_eq_some_iff.mp e).1
          rw [List.length_append, List.length_singleton] at this
          omega
        subst hj2
        rw [← hl, List.getElem?_append_right (Nat.le_refl _), Nat.sub_self] at e
        cases e
        rcases m2 with ⟨q, u, e1, rfl, fq, hq'⟩ | ⟨e1, rfl⟩
        · refine .inl ⟨q, u, e1, rfl, fq.back sH, ?_⟩
          rw [upd_ne (ne_new fq eD)]
          exact hq'
        · exact .inr ⟨e1, rfl⟩
  · rintro H1 ⟨_, sH, us, hl, hn, hDq, hq, eD⟩
    exact k D us H1 ⟨hD⟩ sH hl hn hDq hq eD
end
/-- all of them, or None -/
def seqO {α : Type} : List (Option α) → Option (List α)
  | [] => some []
  | none :: _ => none
  | some a :: r => match seqO r with | some l => some (a :: l) | none => none
theorem seqO_some {α : Type} : ∀ {l : List (Option α)} {r : List α}, seqO l = some r → l = r.map some
  | [], r, h => by cases h; rfl
  | none :: _, r, h => by cases h
  | some a :: t, r, h => by
    unfold seqO at h
    cases e : seqO t with
    | none => rw [e] at h; cases h
    | some l => rw [e] at h; cases h; rw [seqO_some e]; rfl
theorem seqO_none {α : Type} : ∀ {l : List (Option α)}, seqO l = none → none ∈ l
  | [], h => by cases h
  | none :: _, h => List.mem_cons_self
  | some a :: t, h => by
    unfold seqO at h
    cases e : seqO t with
    | none => exact List.mem_cons_of_mem _ (seqO_none e)
    | some l => rw [e] at h; cases h
section
variable {K : PySem.W.Frag} {H : Hp} {Q : VK}
theorem inV_num : ∀ us : List (Option Int), inV .non (us.map numV) = us.any Option.isNone
  | [] => rfl
  | none :: us => by
    show (eqV .non .non || inV .non (us.map numV)) = (true || us.any Option.isNone)
    rw [show eqV .non .non = true from rfl, Bool.true_or, Bool.true_or]
  | some a :: us => by
    show (eqV (.int a) .non || inV .non (us.map numV)) = (false || us.any Option.isNone)
    rw [show eqV (.int a) .non = false from rfl, Bool.false_or, Bool.false_or, inV_num us]
theorem any_yes {us : List (Option Int)} (h : seqO us = none) : us.any Option.isNone = true := List.any_eq_true.mpr ⟨none, seqO_none h, rfl⟩
theorem any_no {us : List (Option Int)} {r : List Int} (h : seqO us = some r) : us.any Option.isNone = false := by
  rw [seqO_some h]
  induction r with
  | nil => rfl
  | cons a r ih => rw [List.map_cons, List.any_cons]; show (false || _) = false; rw [Bool.false_or]; exact List.any_eq_false.mpr fun x hx => by obtain ⟨y, _, rfl⟩ := List.mem_map.mp hx; exact Bool.false_ne_true
theorem o_innum {a : Addr} {us : List (Option Int)} {b : Bool} (h1 : H a = some (.lst (us.map numV))) (e : us.any Option.isNone = b) (k : Q (.bl b) H) : rIn K false .non (.ref a) H Q := by
  refine ⟨a, _, rfl, .inl (SqL.of h1), rfl, ?_, ?_⟩
  · rw [List.all_eq_true]
    intro v hv
    obtain ⟨u, _, rfl⟩ := List.mem_map.mp hv
    cases u <;> rfl
  · show Q (.bl (inV .non (us.map numV))) H
    rw [inV_num, e]
    exact k
theorem op_nnK {X : Cx} (hK : X.K = K) (hu : X.A.units + 64 < cLine) : OpR X (compareOp .In) (rNoneIn K false) := by subst hK; exact op_noneIn hu
end
/-! a square's text, read -/
def rowI (r : List Nat) : Option (List Int) := seqO ((TL.spl [32] 0 [] r).map numI)
def readS (l : List Nat) : Option (List (List Int)) := seqO ((TL.spl [59, 32] 0 [] l).map rowI)
theorem splitR (l : List Nat) : Txt.split (S l) (S [59, 32]) = (TL.spl [59, 32] 0 [] l).map S := SX.split_S (by decide) (by decide)
theorem splitW (l : List Nat) : Txt.split (S l) (S [32]) = (TL.spl [32] 0 [] l).map S := SX.split_S (by decide) (by decide)
def lstI (l : List Int) : HO := .lst (l.map V.int)
def dOf : Option (List Int) → PyData
  | none => .none
  | some l => .list (l.map PyData.int)
theorem may_dp {K : PySem.W.Frag} {H0 H : Hp} : ∀ {us : List V} {rs : List (Option (List Int))}, us.length = rs.length → (∀ (i : Nat) v, us[i]? = some v → May ((rs.getD i none).map lstI) H0 H v) → DpAll K H us (rs.map dOf)
  | [], [], _, _ => .nil
  | [], _ :: _, hl, _ => by simp at hl
  | _ :: _, [], hl, _ => by simp at hl
  | v :: us, r :: rs, hl, h => by
    refine .cons ?_ (may_dp (by simpa using hl) fun i w e => h (i + 1) w (by simpa using e))
    rcases h 0 v rfl with ⟨q, u, e, rfl, _, hq⟩ | ⟨e, rfl⟩
    · cases r with
      | none => cases e
      | some l => cases e; exact .lst (SqL.of hq) (dp_ints l)
    · cases r with
      | none => exact Dp.non
      | some l => cases e
theorem lay_dOf : ∀ rs : List (Option (List Int)), PyData.canLayAll0 (rs.map dOf) = true
  | [] => by simp [PyData.canLayAll0]
  | none :: rs => by simp [PyData.canLayAll0, PyData.canLay0, dOf, lay_dOf rs]
  | some l :: rs => by simp [PyData.canLayAll0, PyData.canLay0, dOf, lay_dOf rs, lay_ints l]
theorem depth_dOf : ∀ rs : List (Option (List Int)), PyData.depthAll (rs.map dOf) ≤ 2
  | [] => by simp [PyData.depthAll]
  | none :: rs => by
    have h1 := depth_dOf rs
    simp only [List.map_cons, PyData.depthAll, PyData.depth, dOf]
    omega
  | some l :: rs => by
    have h1 := depth_dOf rs
    have h2 := depth_ints l
    simp only [List.map_cons, PyData.depthAll, PyData.depth, dOf]
    omega
theorem shaped_dOf (rs : List (Option (List Int))) : SeqAt.shaped (.list (rs.map dOf)) = true := by
  have h1 := depth_dOf rs
  have h2 : PyData.depth (.list (rs.map dOf)) ≤ 64 := by
    simp only [PyData.depth]
    omega
  show (PyData.canLay0 (.list (rs.map dOf)) && decide (PyData.depth (.list (rs.map dOf)) ≤ 64)) = true
  rw [Bool.and_eq_true]
  exact ⟨by simp only [PyData.canLay0]; exact lay_dOf rs, decide_eq_true h2⟩
theorem any_dOf : ∀ rs : List (Option (List Int)), ((rs.map dOf).any fun z => PyData.eqv z .none) = rs.any Option.isNone
  | [] => rfl
  | none :: rs => by
    rw [List.map_cons, List.any_cons, List.any_cons, any_dOf rs]
    rfl
  | some l :: rs => by
    rw [List.map_cons, List.any_cons, List.any_cons, any_dOf rs]
    congr 1
theorem op_inDK {X : Cx} {K : PySem.W.Frag} (hK : X.K = K) (hu : X.A.units + 65 < cLine) : OpR X (compareOp .In) (rInD K) := by subst hK; exact op_inD hu
theorem o_inrows {K : PySem.W.Frag} {H : Hp} {Q : VK} {a : Addr} {us : List V} {rs : List (Option (List Int))} {b : Bool} (h1 : H a = some (.lst us)) (hd : DpAll K H us (rs.map dOf)) (e : rs.any Option.isNone = b) (k : Q (.bl b) H) : rInD K .non (.ref a) H Q :=
  ⟨.none, rs.map dOf, Dp.non, .lst (SqL.of h1) hd, rfl, shaped_dOf rs, by rw [any_dOf, e]; exact k⟩
theorem anyN_yes {α : Type} {us : List (Option α)} (h : seqO us = none) : us.any Option.isNone = true := List.any_eq_true.mpr ⟨none, seqO_none h, rfl⟩
theorem anyN_no {α : Type} {us : List (Option α)} {r : List α} (h : seqO us = some r) : us.any Option.isNone = false := by
  rw [seqO_some h]
  exact List.any_eq_false.mpr fun x hx => by obtain ⟨y, _, rfl⟩ := List.mem_map.mp hx; exact Bool.false_ne_true
/-- all rows are there -/
theorem may_rows {H0 H : Hp} : ∀ {us : List V} {nss : List (List Int)}, us.length = nss.length → (∀ (i : Nat) v, us[i]? = some v → May (((nss.map some).getD i none).map lstI) H0 H v) → ∃ qs : List Addr, us = qs.map V.ref ∧ Rows H qs nss ∧ us.filterMap refOf = qs ∧ ∀ q ∈ qs, Fr H0 q
  | [], [], _, _ => ⟨[], rfl, .nil, rfl, fun q h => (List.not_mem_nil h).elim⟩
  | [], _ :: _, hl, _ => by simp at hl
  | _ :: _, [], hl, _ => by simp at hl
  | v :: us, n :: nss, hl, h => by
    obtain ⟨qs, e1, e2, e3, e4⟩ := may_rows (us := us) (nss := nss) (by simpa using hl) fun i w e => h (i + 1) w (by simpa using e)
    rcases h 0 v rfl with ⟨q, u, e, rfl, fq, hq⟩ | ⟨e, rfl⟩
    · cases e
      refine ⟨q :: qs, by rw [e1]; rfl, .cons hq e2, by rw [List.filterMap_cons]; show q :: _ = _; rw [e3], fun q' m => ?_⟩
      rcases List.mem_cons.mp m with rfl | m
      · exact fq
      · exact e4 q' m
    · cases e
theorem units65 {k : Nat} {A : Around} (h : Room k A) : A.units + 65 < cLine := by have := h.un; omega
abbrev strS (w : List Nat) : V := .str (S w)
def wF : V → Option V
  | .str y => some (numV (numI y.cps.toList))
  | _ => none
theorem fm_words : ∀ ws : List (List Nat), (ws.map strS).filterMap wF = (ws.map numI).map numV
  | [] => rfl
  | w :: ws => by
    rw [List.map_cons, List.filterMap_cons]
    show numV (numI w) :: _ = _
    rw [fm_words ws]
    rfl
theorem getS {ws : List (List Nat)} {i : Nat} {v : V} (h : (ws.map strS)[i]? = some v) : ∃ w, ws[i]? = some w ∧ v = .str (S w) := by
  rw [List.getElem?_map] at h
  cases e : ws[i]? with
  | none => rw [e] at h; cases h
  | some w => rw [e] at h; cases h; exact ⟨w, rfl, rfl⟩
theorem o_splitS {H : Hp} {Q : VK} {x y : PySem.Str} {ws : List (List Nat)} (e : Txt.split x y = ws.map S) (h0 : (y.length == 0) = false) (hl : x.length ≤ 16000000) (k : ∀ p H', Fr H p → Same H H' → H' p = some (.lst (ws.map strS)) → Q (.ref p) H') : rSplit (.str x) [.str y] H Q :=
  o_split e h0 hl fun p H' f s h => k p H' f s (by rw [h, List.map_map]; rfl)
theorem May.back {o : Option HO} {H0 H1 H : Hp} {v : V} (s : Same H0 H1) (m : May o H1 H v) : May o H0 H v := by
  rcases m with ⟨q, u, e, rfl, f, h⟩ | m
  · exact .inl ⟨q, u, e, rfl, f.back s, h⟩
  · exact .inr m
theorem spl_len (T : List Nat) : ∀ (r : List Nat) (j : Nat) (acc : List Nat), (TL.spl T j acc r).length ≤ r.length + 1
  | [], j, acc => by rw [TL.spl_nil]; exact Nat.le_refl _
  | c :: r, 0, acc => by
    unfold TL.spl
    split
    · have := spl_len T r (T.length - 1) []
      rw [List.length_cons, List.length_cons]
      omega
    · have := spl_len T r 0 (acc ++ [c])
      rw [List.length_cons]
      omega
  | c :: r, j + 1, acc => by
    unfold TL.spl
    have := spl_len T r j acc
    rw [List.length_cons]
    omega
def nF : V → Option V
  | .non => some .non
  | _ => none
theorem fm_nF : ∀ us : List (Option Int), (us.map numV).filterMap nF = List.replicate (us.countP Option.isNone) V.non
  | [] => rfl
  | none :: us => by
    rw [List.map_cons, List.filterMap_cons, List.countP_cons]
    show V.non :: _ = _
    rw [fm_nF us]
    rfl
  | some a :: us => by
    rw [List.map_cons, List.filterMap_cons, List.countP_cons]
    show List.filterMap nF _ = _
    rw [fm_nF us]
    rfl
theorem fm_nF0 {us : List (Option Int)} {r : List Int} (h : seqO us = some r) : (us.map numV).filterMap nF = [] := by
  rw [fm_nF, List.countP_eq_zero.mpr]
  · rfl
  · intro u hu
    rw [seqO_some h] at hu
    obtain ⟨x, _, rfl⟩ := List.mem_map.mp hu
    exact Bool.false_ne_true
theorem fm_nF1 {us : List (Option Int)} (h : seqO us = none) : ∃ n, (us.map numV).filterMap nF = V.non :: List.replicate n V.non := by
  have : 0 < us.countP Option.isNone := List.countP_pos_iff.mpr ⟨none, seqO_none h, rfl⟩
  obtain ⟨n, hn⟩ : ∃ n, us.countP Option.isNone = n + 1 := ⟨us.countP Option.isNone - 1, by omega⟩
  exact ⟨n, by rw [fm_nF, hn, List.replicate_succ]⟩
theorem dp_nons {K : PySem.W.Frag} {H : Hp} : ∀ n, DpAll K H (List.replicate n V.non) (List.replicate n PyData.none)
  | 0 => .nil
  | n + 1 => .cons Dp.non (dp_nons n)
theorem shaped_nons (n : Nat) : SeqAt.shaped (.list (List.replicate n PyData.none)) = true := by
  have := shaped_dOf (List.replicate n none)
  rw [List.map_replicate] at this
  exact this
theorem o_nnons {K : PySem.W.Frag} {H : Hp} {Q : VK} {a b : Addr} {n : Nat} (h1 : H a = some (.lst (V.non :: List.replicate n V.non))) (h2 : H b = some (.lst [])) (k : Q (.bl true) H) : rNeD K (.ref a) (.ref b) H Q :=
  o_ne0 (d := PyData.none) (ds := List.replicate n PyData.none) h1 h2 (dp_nons (n + 1)) (shaped_nons (n + 1)) k
theorem seqO_app {α : Type} {x : α} : ∀ {l : List (Option α)} {r : List α}, seqO l = some r → seqO (l ++ [some x]) = some (r ++ [x])
  | [], r, h => by cases h; rfl
  | none :: _, r, h => by cases h
  | some a :: t, r, h => by
    unfold seqO at h
    cases e : seqO t with
    | none => rw [e] at h; cases h
    | some l =>
      rw [e] at h
      cases h
      rw [List.cons_append]
      unfold seqO
      rw [seqO_app e]
      rfl
theorem seqO_mem {α : Type} : ∀ {l : List (Option α)}, none ∈ l → seqO l = none
  | [], h => (List.not_mem_nil h).elim
  | none :: _, h => rfl
  | some a :: t, h => by
    have : none ∈ t := by
      rcases List.mem_cons.mp h with h | h
      · cases h
      · exact h
    unfold seqO
    rw [seqO_mem this]
theorem seqO_len {α : Type} {l : List (Option α)} {r : List α} (h : seqO l = some r) : r.length = l.length := by rw [seqO_some h, List.length_map]
theorem rows_mem {H : Hp} : ∀ {qs : List Addr} {nss : List (List Int)}, Rows H qs nss → ∀ q ∈ qs, ∃ ns : List Int, H q = some (.lst (ns.map V.int))
  | _, _, .nil, q, m => (List.not_mem_nil m).elim
  | _, _, .cons h r, q, m => by
    rcases List.mem_cons.mp m with rfl | m
    · exact ⟨_, h⟩
    · exact rows_mem r q m
theorem readS_len {l : List Nat} {nss : List (List Int)} (h : readS l = some nss) : nss.length ≤ l.length + 1 ∧ ∀ ns ∈ nss, ns.length ≤ l.length + 1 := by
  have h1 := seqO_len h
  rw [List.length_map] at h1
  refine ⟨by rw [h1]; exact spl_len _ _ _ _, fun ns m => ?_⟩
  have h2 : some ns ∈ (TL.spl [59, 32] 0 [] l).map rowI := by rw [seqO_some h]; exact List.mem_map.mpr ⟨ns, m, rfl⟩
  obtain ⟨w, hw, e⟩ := List.mem_map.mp h2
  have h3 := seqO_len e
  rw [List.length_map] at h3
  have h4 := spl_len [32] w 0 []
  obtain ⟨h5, _⟩ := spl_mem _ _ _ _ _ hw
  rw [List.length_nil] at h5
  omega
theorem nodup_take {qs : List Addr} (nd : qs.Nodup) {j : Nat} (hj : j < qs.length) : qs[j] ∉ qs.take j := fun m => by
  obtain ⟨i, hi, e⟩ := List.getElem_of_mem m
  rw [List.getElem_take] at e
  rw [List.length_take] at hi
  exact List.pairwise_iff_getElem.mp nd i j (by omega) hj (by omega) e
/-! joins of texts that can be compared -/
theorem joinL_mem {sep : List Nat} : ∀ {ys : List (List Nat)} {c : Nat}, c ∈ TL.joinL sep ys → c ∈ sep ∨ ∃ y ∈ ys, c ∈ y
  | [], c, h => (List.not_mem_nil h).elim
  | [y], c, h => .inr ⟨y, List.mem_cons_self, h⟩
  | y :: z :: ys, c, h => by
    have h2 : c ∈ y ++ (sep ++ TL.joinL sep (z :: ys)) := h
    rcases List.mem_append.mp h2 with m | m
    · exact .inr ⟨y, List.mem_cons_self, m⟩
    · rcases List.mem_append.mp m with m | m
      · exact .inl m
      · rcases joinL_mem m with m | ⟨u, hu, m⟩
        · exact .inl m
        · exact .inr ⟨u, List.mem_cons_of_mem _ hu, m⟩
theorem strs_S : ∀ xs : List PySem.Str, ∃ ys : List (List Nat), xs = ys.map S
  | [] => ⟨[], rfl⟩
  | x :: xs => by
    obtain ⟨ys, e⟩ := strs_S xs
    exact ⟨x.cps.toList :: ys, by rw [List.map_cons, ← e]⟩
theorem TK.join {a b : Nat} {sep : PySem.Str} {xs : List PySem.Str} (hs : TK b sep) (h : ∀ x ∈ xs, TK a x) : TK (xs.length * (a + b)) (Txt.join sep xs) := by
  refine ⟨?_, ?_⟩
  · have h1 := join_len sep xs
    have h2 := sum_le (n := a) xs fun x m => (h x m).len
    have h3 := Nat.mul_le_mul_left xs.length hs.len
    rw [Nat.mul_add]
    omega
  · obtain ⟨s, rfl, _, s2⟩ := hs.ex
    obtain ⟨ys, rfl⟩ := strs_S xs
    rw [show Txt.join (S s) (ys.map S) = S (TL.joinL s ys) from SX.join_S s ys]
    refine ok_S.mpr fun c hc => ?_
    rcases joinL_mem hc with m | ⟨y, hy, m⟩
    · exact s2 c m
    · exact ok_S.mp (h (S y) (List.mem_map.mpr ⟨y, hy, rfl⟩)).ok c m
/-! the text of a square is read back -/
theorem seqO_map {α : Type} : ∀ l : List α, seqO (l.map some) = some l
  | [] => rfl
  | a :: l => by
    rw [List.map_cons]
    unfold seqO
    rw [seqO_map l]
def rowL (ns : List Int) : List Nat := TL.joinL [32] (ns.map itx)
def squareL (nss : List (List Int)) : List Nat := TL.joinL [59, 32] (nss.map rowL)
theorem rowL_signs {ns : List Int} {c : Nat} (h : c ∈ rowL ns) : c = 32 ∨ c = 45 ∨ (48 ≤ c ∧ c ≤ 57) := by
  rcases joinL_mem h with m | ⟨y, hy, m⟩
  · exact .inl (List.mem_singleton.mp m)
  · obtain ⟨z, _, rfl⟩ := List.mem_map.mp hy
    exact .inr (itx_signs m)
theorem rowI_back {ns : List Int} (h0 : ns ≠ []) (hb : ∀ z ∈ ns, z.natAbs < 10 ^ 60) : rowI (rowL ns) = some ns := by
  unfold rowI rowL
  rw [SX.spl_join (c := 32) (sep := []) (by simpa using h0) (fun p m => by
    obtain ⟨z, _, rfl⟩ := List.mem_map.mp m
    exact itx_free (by decide) (.inl (by decide)))]
  have e : (ns.map itx).map numI = ns.map some := by
    rw [List.map_map]
    exact List.map_congr_left fun z m => numI_itx (hb z m)
  rw [e, seqO_map]
theorem readS_back {nss : List (List Int)} (h0 : nss ≠ []) (h1 : ∀ ns ∈ nss, ns ≠ []) (hb : ∀ ns ∈ nss, ∀ z ∈ ns, z.natAbs < 10 ^ 60) : readS (squareL nss) = some nss := by
  unfold readS squareL
  rw [SX.spl_join (c := 59) (sep := [32]) (by simpa using h0) (fun p m => by
    obtain ⟨ns, _, rfl⟩ := List.mem_map.mp m
    intro q
    have := rowL_signs q
    omega)]
  have e : (nss.map rowL).map rowI = nss.map some := by
    rw [List.map_map]
    exact List.map_congr_left fun ns m => rowI_back (h1 ns m) (hb ns m)
  rw [e, seqO_map]
theorem rowTx_S (ns : List Int) : rowTx ns = S (rowL ns) := by
  unfold rowTx rowL
  have e : ns.map tx = (ns.map itx).map S := by
    rw [List.map_map]
    exact List.map_congr_left fun z _ => tx_S z
  rw [e]
  exact SX.join_S [32] _
theorem rowsTx_S (nss : List (List Int)) : rowsTx nss = S (squareL nss) := by
  unfold rowsTx squareL
  have e : nss.map rowTx = (nss.map rowL).map S := by
    rw [List.map_map]
    exact List.map_congr_left fun z _ => rowTx_S z
  rw [e]
  exact SX.join_S [59, 32] _
/-! comprehensions over a range that may change tracked things: the new list is known -/
section
variable {H : Hp} {Q : VK} {g : TG} {tt : TT} {te : TE} {vs : List Nat} {σ : L2.St}
theorem lcr1_inv {j : Int} (Pv : Addr → Nat → List V → Hp → Prop) (b1 : -(2 ^ 62) ≤ j) (hz : j ≤ 100000)
    (h0 : ∀ D, Fr H D → ∀ H1, Same H H1 → H1 D = some (.lst []) → Pv D 0 [] H1)
    (hs : ∀ D, Fr H D → ∀ (i : Nat) acc H1, (i : Int) < j → acc.length = i → Pv D i acc H1 → H1 D = some (.lst acc) → ∀ Z : Option V → Hp → Prop,
      (∀ y H4, H4 D = some (.lst acc) → (∀ H5, SB D H4 H5 → H5 D = some (.lst (acc ++ [y])) → Pv D (i + 1) (acc ++ [y]) H5) → Z (some y) H4) → LcT g tt te vs σ (.int i) H1 Z)
    (k : ∀ D acc H', Fr H D → acc.length = j.toNat → Pv D j.toNat acc H' → H' D = some (.lst acc) → Q (.ref D) H') : LcR1 g tt te vs σ [.int j] H Q := by
  refine ⟨j, rfl, b1, by omega, fun D hD => lc_range (fun i H' => ∃ acc, acc.length = i ∧ i ≤ j.toNat ∧ Pv D i acc H' ∧ H' D = some (.lst acc)) ⟨[], rfl, Nat.zero_le _, h0 D ⟨hD⟩ _ (same_upd hD) upd_same, upd_same⟩ ?_ ?_⟩
  · rintro i H1 lt ⟨acc, al, il, pv, eD⟩
    rw [Int.zero_add]
    refine hs D ⟨hD⟩ i acc H1 (by omega) al pv eD (fun o H4 => match o with
      | some y => ∃ ac, H4 D = some (.lst ac) ∧ ac.length < sizeLine ∧ ∃ acc', acc'.length = i + 1 ∧ i + 1 ≤ j.toNat ∧ Pv D (i + 1) acc' (upd H4 D (.lst (ac ++ [y]))) ∧ (upd H4 D (.lst (ac ++ [y]))) D = some (.lst acc')
      | none => ∃ acc', acc'.length = i + 1 ∧ i + 1 ≤ j.toNat ∧ Pv D (i + 1) acc' H4 ∧ H4 D = some (.lst acc')) fun y H4 eD4 pv4 => ?_
    refine ⟨acc, eD4, ?_, acc ++ [y], by rw [List.length_append, al]; rfl, lt, pv4 _ sb_upd upd_same, upd_same⟩
    rw [al]
    exact Nat.lt_of_le_of_lt (by omega : _ ≤ 100000) (by decide)
  · rintro H1 ⟨acc, al, _, pv, eD⟩
    exact k D acc H1 ⟨hD⟩ al pv eD
/-- a comprehension whose items are new lists of ints drawn from a well -/
theorem lc_drawrows {p : Addr} {x y j : Int} (B : List Int → Prop) (b1 : -(2 ^ 62) ≤ j) (hz : j ≤ 100000) (h1 : Wel p H x y)
    (hs : ∀ (i : Nat) x y H1, (i : Int) < j → SB p H H1 → Wel p H1 x y → ∀ Z : Option V → Hp → Prop, (∀ q ds x' y' H2, Fr H1 q → B ds → SB p H1 H2 → Wel p H2 x' y' → H2 q = some (.lst (ds.map V.int)) → Z (some (.ref q)) H2) → LcT g tt te vs σ (.int i) H1 Z)
    (k : ∀ D qs nss x' y' H', Fr H D → nss.length = j.toNat → (∀ ns ∈ nss, B ns) → Rows H' qs nss → (∀ q ∈ qs, Fr H q) → SB p H H' → Wel p H' x' y' → H' D = some (.lst (qs.map V.ref)) → Q (.ref D) H') : LcR1 g tt te vs σ [.int j] H Q := by
  have pH : ∀ D, Fr H D → p ≠ D := fun D f e => by have := h1.at_; rw [e, f.out] at this; cases this
  refine lcr1_inv (fun D i acc H1 => ∃ (qs : List Addr) (nss : List (List Int)) (x y : Int), acc = qs.map V.ref ∧ nss.length = i ∧ (∀ ns ∈ nss, B ns) ∧ Rows H1 qs nss ∧ (∀ q ∈ qs, Fr H q ∧ q ≠ D ∧ q ≠ p) ∧ SB p H H1 ∧ Wel p H1 x y) b1 hz ?_ ?_ ?_
  · intro D fD H1 s e
    exact ⟨[], [], x, y, rfl, rfl, fun ns m => (List.not_mem_nil m).elim, .nil, fun q m => (List.not_mem_nil m).elim, SB.of s, ⟨s _ _ h1.at_, h1.x0, h1.y0, h1.y1⟩⟩
  · rintro D fD i acc H1 hi al ⟨qs, nss, u, v, rfl, nl, hb, rows, hq, s1, w⟩ eD Z kZ
    have pD := pH D fD
    refine hs i u v H1 hi s1 w Z fun q ds u' v' H2 fq bd s2 w2 hq2 => ?_
    have qD : q ≠ D := fun e => by rw [← e, fq.out] at eD; cases eD
    have qp : q ≠ p := fun e => by have := w.at_; rw [← e, fq.out] at this; cases this
    have fq0 : Fr H q := ⟨by
      cases e : H q with
      | none => rfl
      | some o => have := s1 _ _ qp e; rw [fq.out] at this; cases this⟩
    refine kZ _ _ (s2 _ _ pD.symm eD) fun H5 s5 e5 => ⟨qs ++ [q], nss ++ [ds], u', v', by rw [List.map_append]; rfl, by rw [List.length_append, nl]; rfl, fun ns m => ?_, Rows.snoc (s5 _ _ qD hq2) (rows.imp fun c m o h => s5 _ _ (hq c m).2.1 (s2 _ _ (hq c m).2.2 h)), fun c m => ?_, fun c o n h => ?_, ⟨s5 _ _ pD w2.at_, w2.x0, w2.y0, w2.y1⟩⟩
    · rcases List.mem_append.mp m with m | m
      · exact hb ns m
      · rw [List.mem_singleton.mp m]; exact bd
    · rcases List.mem_append.mp m with m | m
      · exact hq c m
      · rw [List.mem_singleton.mp m]; exact ⟨fq0, qD, qp⟩
    · exact s5 _ _ (fun e => by rw [e, fD.out] at h; cases h) (s2 _ _ n (s1 _ _ n h))
  · rintro D acc H' fD al ⟨qs, nss, u, v, rfl, nl, hb, rows, hq, s1, w⟩ eD
    exact k D qs nss u v H' fD nl hb rows (fun q m => (hq q m).1) s1 w eD
end
end L3

set_option Elab.async false
set_option linter.all false
set_option maxRecDepth 100000
set_option maxHeartbeats 2000000
/-! rows of texts; items put into lists. -/
namespace L3
open PySem L2 PyProof.Rows
/-- xs.insert(i, y) -/
def rInsert : V → List V → Hp → VK → Prop := fun x vs H Q => ∃ (l : Addr) (xs : List V) (i : Int) (y : V), x = .ref l ∧ vs = [.int i, y] ∧ H l = some (.lst xs) ∧ xs.length < sizeLine ∧ 0 ≤ i ∧ i < 2 ^ 63 ∧
    Q .non (upd H l (.lst (xs.take i.toNat ++ [y] ++ xs.drop i.toNat)))
theorem mt_ins {X : Cx} : MtR X "list.insert" rInsert := mt_insert
section
variable {H : Hp} {Q : VK} {K : PySem.W.Frag} {a : Addr} {xs : List V} {y v : V} {σ : L2.St} {te : TE} {g : TG} {tt : TT} {vs : List Nat}
theorem in_insert {i : Int} (h1 : H a = some (.lst xs)) (hz : xs.length < 100000) (h0 : 0 ≤ i) (hi : i < 2 ^ 62) (h : ∀ H', SB a H H' → H' a = some (.lst (xs.take i.toNat ++ [y] ++ xs.drop i.toNat)) → Q .non H') : rInsert (.ref a) [.int i, y] H Q :=
  ⟨a, xs, i, y, rfl, rfl, h1, Nat.lt_of_lt_of_le hz (by decide), h0, by omega, h _ sb_upd upd_same⟩
theorem s_seti {k : Int} (h1 : H a = some (.lst xs)) (k0 : 0 ≤ k) (k1 : k < xs.length) {Q : Hp → Prop} (h : ∀ H', SB a H H' → H' a = some (.lst (xs.set k.toNat v)) → Q H') : rSetL (.ref a) (.int k) v H Q := by
  have e : k = ((k.toNat : Nat) : Int) := by omega
  refine s_setl (n := k.toNat) h1 ?_ h
  rw [e]
  unfold ixN
  rw [if_pos (by omega), if_pos (by omega)]
/-- a comprehension whose items keep a promise -/
theorem lc_pred (P : V → Prop) (h1 : SqL K H a xs) (hz : xs.length ≤ 100000)
    (hs : ∀ x ∈ xs, ∀ H1, Same H H1 → ∀ R : Option V → Hp → Prop, (∀ y H2, P y → Same H1 H2 → R (some y) H2) → LcT g tt te vs σ x H1 R)
    (k : ∀ D acc H', Fr H D → Same H H' → acc.length = xs.length → (∀ y ∈ acc, P y) → H' D = some (.lst acc) → Q (.ref D) H') : LcL K g tt te vs σ (.ref a) H Q := by
  refine ⟨a, rfl, ⟨xs, h1⟩, fun D hD => lc_list (xs := xs) (fun i H' => i ≤ xs.length ∧ Same H H' ∧ ∃ acc, acc.length = i ∧ (∀ y ∈ acc, P y) ∧ H' D = some (.lst acc)) ⟨Nat.zero_le _, same_upd hD, [], rfl, fun y m => (List.not_mem_nil m).elim, upd_same⟩ (fun i H' _ q => q.2.1.seq h1) ?_ ?_⟩
  · rintro i x H1 hx ⟨hi, sH, acc, al, pa, eD⟩
    have hlt : i < xs.length := (List.getElem?_eq_some_iff.mp hx).1
    refine hs x (List.mem_of_getElem? hx) H1 sH (fun o H4 => match o with
      | some y => ∃ ac, H4 D = some (.lst ac) ∧ ac.length < sizeLine ∧ (i + 1 ≤ xs.length ∧ Same H (upd H4 D (.lst (ac ++ [y]))) ∧ ∃ acc, acc.length = i + 1 ∧ (∀ y ∈ acc, P y) ∧ (upd H4 D (.lst (ac ++ [y]))) D = some (.lst acc))
      | none => i + 1 ≤ xs.length ∧ Same H H4 ∧ ∃ acc, acc.length = i + 1 ∧ (∀ y ∈ acc, P y) ∧ H4 D = some (.lst acc)) fun y H2 py s2 => ?_
    refine ⟨acc, s2 _ _ eD, ?_, hlt, fun b o q => ?_, acc ++ [y], by rw [List.length_append, al]; rfl, fun z m => ?_, upd_same⟩
    · rw [al]
      exact Nat.lt_of_le_of_lt (by omega : _ ≤ 100000) (by decide)
    · rw [upd_ne (ne_of_none q hD)]
      exact s2 _ _ (sH _ _ q)
    · rcases List.mem_append.mp m with m | m
      · exact pa z m
      · rw [List.mem_singleton.mp m]; exact py
  · rintro H1 ⟨_, sH, acc, al, pa, eD⟩
    exact k D acc H1 ⟨hD⟩ sH al pa eD
/-- texts that were told one by one -/
theorem strs_of {n : Nat} : ∀ {acc : List V}, (∀ v ∈ acc, ∃ z, v = .str z ∧ TK n z) → ∃ ys : List PySem.Str, acc = ys.map V.str ∧ ∀ y ∈ ys, TK n y
  | [], _ => ⟨[], rfl, fun y m => (List.not_mem_nil m).elim⟩
  | v :: acc, h => by
    obtain ⟨z, rfl, hz⟩ := h v List.mem_cons_self
    obtain ⟨ys, e, hy⟩ := strs_of (acc := acc) fun w m => h w (List.mem_cons_of_mem _ m)
    refine ⟨z :: ys, by rw [e]; rfl, fun y m => ?_⟩
    rcases List.mem_cons.mp m with rfl | m
    · exact hz
    · exact hy y m
theorem TK.join_le {a b m : Nat} {sep : PySem.Str} {xs : List PySem.Str} (hs : TK b sep) (h : ∀ x ∈ xs, TK a x) (hm : xs.length ≤ m) : TK (m * (a + b)) (Txt.join sep xs) :=
  .mono (TK.join hs h) (Nat.mul_le_mul_right _ hm)
theorem o_joink {p : Addr} {x : PySem.Str} {acc : List V} {a b m : Nat} (h1 : H p = some (.lst acc)) (hx : TK b x) (h : ∀ v ∈ acc, ∃ z, v = .str z ∧ TK a z) (hm : acc.length ≤ m) (hc : m * (a + b) ≤ 16000000) (k : ∀ z, TK (m * (a + b)) z → Q (.str z) H) : rJoin K (.str x) [.ref p] H Q := by
  obtain ⟨ys, rfl, hy⟩ := strs_of h
  rw [List.length_map] at hm
  refine o_join h1 rfl ?_ (k _ (TK.join_le hx hy hm))
  have h2 := sum_le (n := a) ys fun y m => (hy y m).len
  have h3 := Nat.mul_le_mul_left ys.length hx.len
  have h4 := Nat.mul_le_mul_right (a + b) hm
  rw [Nat.mul_add] at h4
  omega
theorem TK.of1 {x : PySem.Str} (h1 : x.length = 1) (h2 : PyData.strOk x = true) : TK 1 x := ⟨Nat.le_of_eq h1, h2⟩
theorem TK.of2 {x : PySem.Str} (h1 : x.length = 2) (h2 : PyData.strOk x = true) : TK 2 x := ⟨Nat.le_of_eq h1, h2⟩
theorem TK.txn {i : Int} {n : Nat} (hn : 0 < n) (h : i.natAbs < 10 ^ n) : TK (n + 1) (L3.tx i) := by
  have e := TL.numL_len hn h
  rw [tx_S]
  refine .of ?_ fun c hc => ?_
  · unfold itx
    split
    · omega
    · rw [List.length_cons]; omega
  · have := itx_signs hc
    omega
theorem o_mul7k {k : Int} (k1 : 2 ≤ k) (k2 : k ≤ 360) (q : ∀ z, TK 360 z → Q (.str z) H) : rMulS (.str "7") (.int k) H Q :=
  o_mulk (x := S [55]) (.mono (.of (Nat.le_refl 1) (by simp)) (by decide)) (by rw [SX.S_len]; decide) k1 (by omega) (q _ (by
    have e : Txt.mul (S [55]) k = S (List.replicate k.toNat 55) := TL.ext_tl (PyProof.Rows.mul_one_list 55 k)
    rw [e]
    refine .of (by rw [List.length_replicate]; omega) fun d hd => ?_
    rw [List.eq_of_mem_replicate hd]
    decide))
/-- a comprehension that draws texts from a well -/
theorem lc_drawtx {p : Addr} {x y j : Int} (B : Nat) (b1 : -(2 ^ 62) ≤ j) (hz : j ≤ 100000) (h1 : Wel p H x y)
    (hs : ∀ (i : Nat) x y H1, (i : Int) < j → SB p H H1 → Wel p H1 x y → ∀ Z : Option V → Hp → Prop, (∀ r x' y' H2, TK B r → SB p H1 H2 → Wel p H2 x' y' → Z (some (.str r)) H2) → LcT g tt te vs σ (.int i) H1 Z)
    (k : ∀ D (ds : List PySem.Str) x' y' H', Fr H D → ds.length = j.toNat → (∀ z ∈ ds, TK B z) → SB p H H' → Wel p H' x' y' → H' D = some (.lst (ds.map V.str)) → Q (.ref D) H') : LcR1 g tt te vs σ [.int j] H Q := by
  refine lcr1_acc (fun i acc H1 => ∃ (ds : List PySem.Str) (x y : Int), acc = ds.map V.str ∧ (∀ z ∈ ds, TK B z) ∧ SB p H H1 ∧ Wel p H1 x y) b1 hz ⟨[], x, y, rfl, fun z h => (List.not_mem_nil h).elim, SB.refl _ _, h1⟩ ?_ ?_ ?_
  · rintro D hD i acc H1 H2 s2 ⟨ds, u, v, e, hb, s1, w⟩
    have pD : p ≠ D := fun e => by have := h1.at_; rw [e, hD] at this; cases this
    refine ⟨ds, u, v, e, hb, fun c o n hc => ?_, ⟨s2 _ _ pD w.at_, w.x0, w.y0, w.y1⟩⟩
    exact s2 _ _ (fun z => by rw [z, hD] at hc; cases hc) (s1 _ _ n hc)
  · rintro i acc H1 hi al ⟨ds, u, v, e, hb, s1, w⟩ Z kZ
    refine hs i u v H1 hi s1 w Z fun r u' v' H2 br s2 w2 => kZ _ _ (fun a o ha hc => ?_) ⟨ds ++ [r], u', v', by rw [e, List.map_append]; rfl, ?_, s1.trans s2, w2⟩
    · exact s2 _ _ (fun z => by rw [z, h1.at_] at ha; cases ha) hc
    · intro z hz
      rcases List.mem_append.mp hz with h | h
      · exact hb z h
      · rw [List.mem_singleton.mp h]; exact br
  · rintro D acc H' fD al ⟨ds, u, v, e, hb, s1, w⟩ hD
    subst e
    rw [List.length_map] at al
    exact k D ds u v H' fD al hb s1 w hD
end
/-- a list of one to five texts stands at each address -/
def TxA (H : Hp) (B : Nat) (qs : List Addr) : Prop := ∀ q ∈ qs, ∃ ws : List PySem.Str, H q = some (.lst (ws.map V.str)) ∧ 1 ≤ ws.length ∧ ws.length ≤ 5 ∧ ∀ w ∈ ws, TK B w
theorem TxA.imp {H H' : Hp} {B C : Nat} {qs : List Addr} (h : TxA H B qs) (hb : B ≤ C) (s : ∀ q ∈ qs, ∀ o, H q = some o → H' q = some o) : TxA H' C qs := fun q m => by
  obtain ⟨ws, h1, h2, h3, h4⟩ := h q m
  exact ⟨ws, s q m _ h1, h2, h3, fun w mw => (h4 w mw).mono hb⟩
theorem TxA.put {H : Hp} {B : Nat} {qs : List Addr} (h : TxA H B qs) {n : Nat} {q : Addr} {ws : List PySem.Str} (h1 : H q = some (.lst (ws.map V.str))) (h2 : 1 ≤ ws.length) (h3 : ws.length ≤ 5) (h4 : ∀ w ∈ ws, TK B w) : TxA H B (qs.take n ++ [q] ++ qs.drop n) := fun c m => by
  rcases List.mem_append.mp m with m | m
  · rcases List.mem_append.mp m with m | m
    · exact h c (List.mem_of_mem_take m)
    · rw [List.mem_singleton.mp m]; exact ⟨ws, h1, h2, h3, h4⟩
  · exact h c (List.mem_of_mem_drop m)
theorem TxA.snoc {H : Hp} {B : Nat} {qs : List Addr} (h : TxA H B qs) {q : Addr} {ws : List PySem.Str} (h1 : H q = some (.lst (ws.map V.str))) (h2 : 1 ≤ ws.length) (h3 : ws.length ≤ 5) (h4 : ∀ w ∈ ws, TK B w) : TxA H B (qs ++ [q]) := fun c m => by
  rcases List.mem_append.mp m with m | m
  · exact h c m
  · rw [List.mem_singleton.mp m]; exact ⟨ws, h1, h2, h3, h4⟩
theorem TxA.set {H H' : Hp} {B : Nat} {qs : List Addr} (h : TxA H B qs) {q : Addr} {ws : List PySem.Str} {n : Nat} {z : PySem.Str} (s : SB q H H') (h1 : H' q = some (.lst ((ws.map V.str).set n (.str z)))) (h2 : 1 ≤ ws.length) (h3 : ws.length ≤ 5) (h4 : ∀ w ∈ ws, TK B w) (hz : TK B z) : TxA H' B qs := fun c m => by
  by_cases e : c = q
  · subst e
    refine ⟨ws.set n z, by rw [h1, List.map_set], by rw [List.length_set]; exact h2, by rw [List.length_set]; exact h3, fun w mw => ?_⟩
    rcases List.mem_or_eq_of_mem_set mw with m | rfl
    · exact h4 w m
    · exact hz
  · obtain ⟨us, g1, g2, g3, g4⟩ := h c m
    exact ⟨us, s _ _ e g1, g2, g3, g4⟩
theorem fr_bk {p O : Addr} {H H1 : Hp} {o : HO} (s : SB p H H1) (h : Fr H1 O) (hp : H1 p = some o) : Fr H O := ⟨by
  cases e : H O with
  | none => rfl
  | some u =>
    by_cases z : O = p
    · rw [z] at h; rw [h.out] at hp; cases hp
    · have := s _ _ z e
      rw [h.out] at this
      cases this⟩
theorem SB.skip {p D : Addr} {H H1 H2 : Hp} (a : SB p H H1) (f : Fr H D) (s : SB D H1 H2) : SB p H H2 := fun c o n h => s _ _ (fun e => by rw [e, f.out] at h; cases h) (a _ _ n h)
/-! wide squares -/
def Fin2 (nss : List (List Int)) : Prop := nss.length ≤ 200 ∧ ∀ ns ∈ nss, ns.length ≤ 200 ∧ ∀ z ∈ ns, z.natAbs < 10 ^ 60
theorem tx_le60 {i : Int} (h : i.natAbs < 10 ^ 60) : (tx i).length ≤ 61 := (TK.txn (n := 60) (by decide) h).len
theorem row_cost2 {ns : List Int} (hl : ns.length ≤ 200) (hb : ∀ z ∈ ns, z.natAbs < 10 ^ 60) : ((ns.map tx).map (·.length)).sum + (ns.map tx).length * (" " : PySem.Str).length ≤ 12400 := by
  have h1 := sum_le (n := 61) (ns.map tx) (fun x m => by obtain ⟨z, hz, rfl⟩ := List.mem_map.mp m; exact tx_le60 (hb z hz))
  rw [List.length_map] at h1 ⊢
  have e : (" " : PySem.Str).length = 1 := by decide +kernel
  rw [e]
  omega
theorem rows_cost2 {nss : List (List Int)} (h : Fin2 nss) : ((nss.map rowTx).map (·.length)).sum + (nss.map rowTx).length * ("; " : PySem.Str).length ≤ 3100000 := by
  have h1 := sum_le (n := 12400) (nss.map rowTx) (fun x m => by obtain ⟨z, hz, rfl⟩ := List.mem_map.mp m; exact Nat.le_trans (join_len _ _) (row_cost2 (h.2 z hz).1 (h.2 z hz).2))
  rw [List.length_map] at h1 ⊢
  have e : ("; " : PySem.Str).length = 2 := by decide +kernel
  have := h.1
  rw [e]
  omega
/-- the signs of a square of small numbers -/
theorem small_len {nss : List (List Int)} (h1 : nss.length ≤ 80) (h2 : ∀ ns ∈ nss, ns.length ≤ 200) (h3 : ∀ ns ∈ nss, ∀ z ∈ ns, z.natAbs < 10 ^ 3) : (squareL nss).length ≤ 90000 := by
  have e1 : ∀ ns ∈ nss, TK 1000 (rowTx ns) := fun ns m => by
    refine .mono (TK.join_le (a := 4) (b := 1) (m := 200) ⟨by decide +kernel, by decide +kernel⟩ (fun x mx => ?_) (by rw [List.length_map]; exact h2 ns m)) (by decide)
    obtain ⟨z, hz, rfl⟩ := List.mem_map.mp mx
    exact TK.txn (n := 3) (by decide) (h3 ns m z hz)
  have e2 : TK (80 * (1000 + 2)) (rowsTx nss) := by
    refine TK.join_le (a := 1000) (b := 2) (m := 80) ⟨by decide +kernel, by decide +kernel⟩ (fun x mx => ?_) (by rw [List.length_map]; exact h1)
    obtain ⟨ns, hn, rfl⟩ := List.mem_map.mp mx
    exact e1 ns hn
  have e3 := e2.len
  rw [rowsTx_S, SX.S_len] at e3
  omega
end L3


set_option maxHeartbeats 40000000
namespace Law
open PySem L2 L3 PyProof.Rows
/-! ### tactics -/
-- H a = some ?o
local macro_rules | `(tactic| show "hp") => `(tactic| first
  | assumption
  | (((with_reducible refine' tr_same ?s1 ?nxt); (case s1 => (assumption)); (case' nxt => skip)); show "hp")
  | (((with_reducible refine' tr_but ?s1 ?n ?h); (case s1 => (assumption))); (case h => show "hp"); (case n => show "ne")))
-- a ≠ p
local macro_rules | `(tactic| show "ne") => `(tactic| first
  | assumption
  | ((with_reducible refine Ne.symm ?_); assumption)
  | ((with_reducible refine' ne_new ?s1 ?h); (case s1 => assumption); (case h => show "hp"))
  | ((with_reducible refine' ne_new' ?s1 ?h); (case s1 => assumption); (case h => show "hp")))
-- Sz ?n i
local macro_rules | `(tactic| show "sz") => `(tactic| first
  | assumption
  | ((with_reducible refine' Sz.mul ?s1 ?s2); (case s1 => (show "sz")); (case s2 => (show "sz")))
  | ((with_reducible refine' Sz.add ?s1 ?s2); (case s1 => (show "sz")); (case s2 => (show "sz")))
  | ((with_reducible refine' Sz.sub ?s1 ?s2); (case s1 => (show "sz")); (case s2 => (show "sz")))
  | ((with_reducible refine' Sz.neg ?s1); (case s1 => (show "sz")))
  | ((with_reducible refine' Sz.mod ?s1 ?s2); (case s1 => (omega)); (case s2 => (show "sz")))
  | ((with_reducible refine' Sz.div ?s1 ?s2 ?s3); (case s1 => (omega)); (case s2 => (omega)); (case s3 => (show "sz")))
  | ((with_reducible refine' (Sz.mk ?s1 : Sz 300 _)); (case s1 => (omega))))
local macro_rules | `(tactic| show "mulok") => `(tactic| first
  | assumption
  | ((with_reducible refine mul_okl ?_); omega)
  | ((with_reducible refine mul_okr ?_); omega)
  | ((with_reducible refine' mul_ok ?s1 ?s2 ?s3); (case s1 => (show "sz")); (case s2 => (show "sz")); (case s3 => (decide))))
local macro_rules | `(tactic| show "divok") => `(tactic| first
  | assumption
  | ((with_reducible refine' div_ok ?s1 ?s2 ?s3); (case s1 => (omega)); (case s2 => (show "sz")); (case s3 => (decide))))
-- SqL K H a ?xs
local macro_rules | `(tactic| show "hq") => `(tactic| first
  | assumption
  | ((with_reducible refine' SqL.of ?s1); (case s1 => (show "hp")))
  | (((with_reducible refine' Same.seq ?s1 ?nxt); (case s1 => (assumption)); (case' nxt => skip)); show "hq"))
local macro_rules | `(tactic| show "flen") => `(tactic| first | (show (0 : Nat) < 1000; decide) | (rw [← Nat.succ_le_iff]; exact Nat.le_of_ble_eq_true rfl) | ((with_reducible refine' Nat.lt_of_le_of_lt (length_putF _ _ _) ?s1); (case s1 => (show "flen2"))))
local macro_rules | `(tactic| show "flen2") => `(tactic| first | (show _ + 1 < 1000; simp only [List.length_nil]; omega) | ((with_reducible refine Nat.lt_of_le_of_lt (Nat.succ_le_succ (length_putF _ _ _)) ?_); simp only [List.length_nil]; omega) | ((with_reducible refine Nat.lt_of_le_of_lt (Nat.succ_le_succ (Nat.le_trans (length_putF _ _ _) (Nat.succ_le_succ (length_putF _ _ _)))) ?_); simp only [List.length_nil]; omega))
local macro_rules | `(tactic| show "len") => `(tactic| first
  | exact Nat.le_of_ble_eq_true rfl
  | (simp only [List.length_append, List.length_cons, List.length_nil, List.length_map] at *; omega)
  | omega)
-- a condition that the facts decide
local macro_rules | `(tactic| show "yes") => `(tactic| first | assumption | rfl | omega | exact ⟨rfl, rfl, rfl⟩)
local macro_rules | `(tactic| show "no") => `(tactic| first | assumption | omega | (intro q; cases q; done))
local macro_rules | `(tactic| show "if") => `(tactic| first
  | (with_reducible refine ifs_T ?_)
  | (with_reducible refine ifs_F ?_)
  | ((with_reducible refine ifs_not ?_); show "if")
  | ((with_reducible refine' ifs_y ?s1 ?nxt); (case s1 => (show "yes")); (case' nxt => skip))
  | ((with_reducible refine' ifs_n ?s1 ?nxt); (case s1 => (show "no")); (case' nxt => skip)))
local macro_rules | `(tactic| show "andr") => `(tactic| first
  | (with_reducible refine and_T ?_)
  | (with_reducible refine and_F ?_)
  | ((with_reducible refine' and_y ?s1 ?nxt); (case s1 => (show "yes")); (case' nxt => skip))
  | ((with_reducible refine' and_n ?s1 ?nxt); (case s1 => (show "no")); (case' nxt => skip))
  | ((with_reducible refine' and_ny ?s1 ?nxt); (case s1 => (show "yes")); (case' nxt => skip))
  | ((with_reducible refine' and_nn ?s1 ?nxt); (case s1 => (show "no")); (case' nxt => skip)))
local macro_rules | `(tactic| show "orr") => `(tactic| first
  | (with_reducible refine or_T ?_)
  | (with_reducible refine or_F ?_)
  | ((with_reducible refine' or_y ?s1 ?nxt); (case s1 => (show "yes")); (case' nxt => skip))
  | ((with_reducible refine' or_n ?s1 ?nxt); (case s1 => (show "no")); (case' nxt => skip))
  | ((with_reducible refine' or_ny ?s1 ?nxt); (case s1 => (show "yes")); (case' nxt => skip))
  | ((with_reducible refine' or_nn ?s1 ?nxt); (case s1 => (show "no")); (case' nxt => skip)))
local macro_rules | `(tactic| show "notr") => `(tactic| first
  | (with_reducible refine not_T ?_)
  | (with_reducible refine not_F ?_)
  | ((with_reducible refine' not_y ?s1 ?nxt); (case s1 => (show "yes")); (case' nxt => skip))
  | ((with_reducible refine' not_n ?s1 ?nxt); (case s1 => (show "no")); (case' nxt => skip))
  | ((with_reducible refine' not_ny ?s1 ?nxt); (case s1 => (show "yes")); (case' nxt => skip))
  | ((with_reducible refine' not_nn ?s1 ?nxt); (case s1 => (show "no")); (case' nxt => skip))
  | (with_reducible refine not_b ?_))
local macro_rules | `(tactic| show "alloc") => `(tactic| (first
  | ((with_reducible refine' al_l ?s1 ?nxt); (case s1 => (show "len")); (case' nxt => skip))
  | ((with_reducible refine' al_t ?s1 ?nxt); (case s1 => (show "len")); (case' nxt => skip))); intro _ _ _ _ _)
local macro_rules | `(tactic| show "ints") => `(tactic| first | assumption | exact Ints.of _ | exact Ints.nil | (apply Ints.cons; show "ints"))
local macro_rules | `(tactic| show "andv") => `(tactic| first
  | (with_reducible refine andv_T ?_)
  | (with_reducible refine andv_F ?_)
  | ((with_reducible refine' andv_y ?s1 ?nxt); (case s1 => (show "yes")); (case' nxt => skip))
  | ((with_reducible refine' andv_n ?s1 ?nxt); (case s1 => (show "no")); (case' nxt => skip))
  | ((with_reducible refine' andv_ny ?s1 ?nxt); (case s1 => (show "yes")); (case' nxt => skip))
  | ((with_reducible refine' andv_nn ?s1 ?nxt); (case s1 => (show "no")); (case' nxt => skip))
  | (with_reducible refine orv_T ?_)
  | (with_reducible refine orv_F ?_)
  | ((with_reducible refine' orv_y ?s1 ?nxt); (case s1 => (show "yes")); (case' nxt => skip))
  | ((with_reducible refine' orv_n ?s1 ?nxt); (case s1 => (show "no")); (case' nxt => skip))
  | ((with_reducible refine' orv_ny ?s1 ?nxt); (case s1 => (show "yes")); (case' nxt => skip))
  | ((with_reducible refine' orv_nn ?s1 ?nxt); (case s1 => (show "no")); (case' nxt => skip))
  | (with_reducible refine notv_T ?_)
  | (with_reducible refine notv_F ?_)
  | ((with_reducible refine' notv_y ?s1 ?nxt); (case s1 => (show "yes")); (case' nxt => skip))
  | ((with_reducible refine' notv_n ?s1 ?nxt); (case s1 => (show "no")); (case' nxt => skip))
  | (with_reducible refine notv_b ?_)
  | (with_reducible refine nott_bl ?_)
  | (with_reducible refine ife_T ?_)
  | (with_reducible refine ife_F ?_)
  | ((with_reducible refine' ife_y ?s1 ?nxt); (case s1 => (show "yes")); (case' nxt => skip))
  | ((with_reducible refine' ife_n ?s1 ?nxt); (case s1 => (show "no")); (case' nxt => skip))
  | ((with_reducible refine' ife_ny ?s1 ?nxt); (case s1 => (show "yes")); (case' nxt => skip))
  | ((with_reducible refine' ife_nn ?s1 ?nxt); (case s1 => (show "no")); (case' nxt => skip))
  | (with_reducible refine lce_T ?_)
  | (with_reducible refine lce_F ?_)
  | ((with_reducible refine' lce_y ?s1 ?nxt); (case s1 => (show "yes")); (case' nxt => skip))
  | ((with_reducible refine' lce_n ?s1 ?nxt); (case s1 => (show "no")); (case' nxt => skip))
  | ((with_reducible refine' lce_ny ?s1 ?nxt); (case s1 => (show "yes")); (case' nxt => skip))
  | ((with_reducible refine' lce_nn ?s1 ?nxt); (case s1 => (show "no")); (case' nxt => skip)))
local macro_rules | `(tactic| show "lct") => `(tactic| first
  | refine lct_0 ?_ | refine lct_1 ?_ | refine lct_2 ?_ | refine lct_3 ?_ | refine lct_4 ?_ | refine lct_5 ?_ | refine lct_6 ?_ | refine lct_7 ?_ | refine lct_8 ?_ | refine lct_9 ?_ | refine lct_10 ?_
  | refine lct_11 ?_ | refine lct_12 ?_ | refine lct_13 ?_ | refine lct_14 ?_ | refine lct_15 ?_ | refine lct_16 ?_ | refine lct_17 ?_ | refine lct_18 ?_ | refine lct_19 ?_ | refine lct_20 ?_)
-- an operation on values
local macro_rules | `(tactic| show "op") => `(tactic| first
  | (with_reducible refine o_add ?_)
  | (with_reducible refine o_sub ?_)
  | ((with_reducible refine' o_mul ?s1 ?nxt); (case s1 => (show "mulok")); (case' nxt => skip))
  | ((with_reducible refine' o_mod ?s1 ?nxt); (case s1 => (show "yes")); (case' nxt => skip))
  | ((with_reducible refine' o_div ?s1 ?nxt); (case s1 => (show "divok")); (case' nxt => skip))
  | (with_reducible refine o_lt ?_)
  | (with_reducible refine o_le ?_)
  | (with_reducible refine o_gt ?_)
  | (with_reducible refine o_ge ?_)
  | (with_reducible refine o_eqI ?_)
  | (with_reducible refine o_neI ?_)
  | (with_reducible refine o_isN ?_)
  | (with_reducible refine o_notN ?_)
  | ((with_reducible refine' o_eql ?s1 ?s2 ?s3 ?s4 ?nxt); (case s1 => (show "hp")); (case s2 => (show "hp")); (case s3 => (show "ints")); (case s4 => (show "ints")); (case' nxt => skip))
  | ((with_reducible refine' o_nel ?s1 ?s2 ?s3 ?s4 ?nxt); (case s1 => (show "hp")); (case s2 => (show "hp")); (case s3 => (show "ints")); (case s4 => (show "ints")); (case' nxt => skip))
  | ((with_reducible refine' o_eqt ?s1 ?s2 ?s3 ?s4 ?nxt); (case s1 => (show "hp")); (case s2 => (show "hp")); (case s3 => (show "ints")); (case s4 => (show "ints")); (case' nxt => skip))
  | ((with_reducible refine' o_net ?s1 ?s2 ?s3 ?s4 ?nxt); (case s1 => (show "hp")); (case s2 => (show "hp")); (case s3 => (show "ints")); (case s4 => (show "ints")); (case' nxt => skip))
  | (((with_reducible refine' o_cat ?s1 ?s2 ?s3 ?nxt); (case s1 => (show "hp")); (case s2 => (show "hp")); (case s3 => (show "len")); (case' nxt => skip)); intro _ _ _ _ _)
  | (with_reducible refine o_u ?_)
  | ((with_reducible refine' w_own2 ?s1 ?s2 ?nxt); (case s1 => (show "hp")); (case s2 => (show "hp")); (case' nxt => skip))
  | ((with_reducible refine' w_ownne ?s1 ?s2 ?nxt); (case s1 => (show "hp")); (case s2 => (show "hp")); (case' nxt => skip))
  | ((with_reducible refine' w_ownin ?s1 ?nxt); (case s1 => (show "hp")); (case' nxt => skip))
  | ((with_reducible refine' w_own1 ?s1 ?nxt); (case s1 => (show "hp")); (case' nxt => skip))
  | (with_reducible refine w_b0 ?_)
  | (with_reducible refine w_b1 ?_)
  | ((with_reducible refine o_or1 ?_); show "op")
  | ((with_reducible refine o_or2 ?_); show "op"))
local macro_rules | `(tactic| show "var") => `(tactic| first
  | (with_reducible refine gv_0 ?_) | (with_reducible refine gv_1 ?_) | (with_reducible refine gv_2 ?_) | (with_reducible refine gv_3 ?_) | (with_reducible refine gv_4 ?_) | (with_reducible refine gv_5 ?_) | (with_reducible refine gv_6 ?_) | (with_reducible refine gv_7 ?_) | (with_reducible refine gv_8 ?_) | (with_reducible refine gv_9 ?_) | (with_reducible refine gv_10 ?_)
  | (with_reducible refine gv_11 ?_) | (with_reducible refine gv_12 ?_) | (with_reducible refine gv_13 ?_) | (with_reducible refine gv_14 ?_) | (with_reducible refine gv_15 ?_) | (with_reducible refine gv_16 ?_) | (with_reducible refine gv_17 ?_) | (with_reducible refine gv_18 ?_) | (with_reducible refine gv_19 ?_) | (with_reducible refine gv_20 ?_))
local macro_rules | `(tactic| show "nam") => `(tactic| first
  | (with_reducible refine gn_0 ?_) | (with_reducible refine gn_1 ?_) | (with_reducible refine gn_2 ?_) | (with_reducible refine gn_3 ?_) | (with_reducible refine gn_4 ?_) | (with_reducible refine gn_5 ?_) | (with_reducible refine gn_6 ?_) | (with_reducible refine gn_7 ?_) | (with_reducible refine gn_8 ?_) | (with_reducible refine gn_9 ?_) | (with_reducible refine gn_10 ?_)
  | (with_reducible refine gn_11 ?_) | (with_reducible refine gn_12 ?_) | (with_reducible refine gn_13 ?_) | (with_reducible refine gn_14 ?_) | (with_reducible refine gn_15 ?_) | (with_reducible refine gn_16 ?_) | (with_reducible refine gn_17 ?_) | (with_reducible refine gn_18 ?_) | (with_reducible refine gn_19 ?_) | (with_reducible refine gn_20 ?_))
-- one step
local macro_rules | `(tactic| show "step") => `(tactic| first
  | show "var"
  | (with_reducible refine g_c ?_)
  | (with_reducible refine g_op ?_)
  | (with_reducible refine g_cons ?_)
  | (with_reducible refine g_nil ?_)
  | (with_reducible refine g_seq ?_)
  | (with_reducible refine g_asg ?_)
  | show "nam"
  | (with_reducible refine g_ret ?_)
  | (with_reducible refine g_next ?_)
  | (with_reducible refine g_drop ?_)
  | (with_reducible refine g_ifs ?_)
  | (with_reducible refine g_test ?_)
  | (with_reducible refine g_tb ?_)
  | (with_reducible refine g_bl ?_)
  | (with_reducible refine g_ttr ?_)
  | (with_reducible refine tru_bl ?_)
  | (with_reducible refine tru_int ?_)
  | (with_reducible refine tru_non ?_)
  | (with_reducible refine g_tand ?_)
  | (with_reducible refine g_tor ?_)
  | (with_reducible refine g_tnot ?_)
  | (with_reducible refine g_un ?_)
  | (with_reducible refine g_fld ?_)
  | (with_reducible refine g_prop ?_)
  | (with_reducible refine g_lst ?_)
  | (with_reducible refine g_tup ?_)
  | (with_reducible refine g_call ?_)
  | (with_reducible refine g_meth ?_)
  | (with_reducible refine g_make ?_)
  | (with_reducible refine g_cb ?_)
  | (with_reducible refine g_sfld ?_)
  | (with_reducible refine g_methK ?_)
  | (with_reducible refine g_tcallN ?_)
  | (with_reducible refine g_makeK ?_)
  | (with_reducible refine g_andv ?_)
  | (with_reducible refine g_orv ?_)
  | (with_reducible refine g_notv ?_)
  | (with_reducible refine g_nott ?_)
  | (with_reducible refine g_ife ?_)
  | (with_reducible refine g_forl ?_)
  | (with_reducible refine g_for1 ?_)
  | (with_reducible refine g_for2 ?_)
  | (with_reducible refine g_lcl ?_)
  | (with_reducible refine g_lc1 ?_)
  | (with_reducible refine g_lc2 ?_)
  | (with_reducible refine g_yes ?_)
  | show "lct"
  | (with_reducible refine g_par ?_)
  | (with_reducible refine par2 ?_)
  | (with_reducible refine g_par3 ?_)
  | (with_reducible refine par3 ?_)
  | (with_reducible refine g_bm ?_)
  | (with_reducible refine g_bm0 ?_)
  | (with_reducible refine g_retN ?_)
  | (with_reducible refine g_brk ?_)
  | (with_reducible refine g_cont ?_))
local macro_rules | `(tactic| show "kw") => `(tactic| first | exact (rfl : _ = [_]) | exact (rfl : _ = [_, _]) | exact (rfl : _ = [_, _, _]) | exact (rfl : _ = [_, _, _, _]) | exact (rfl : _ = [_, _, _, _, _]) | exact (rfl : _ = [_, _, _, _, _, _]))
-- built-ins, items
local macro_rules | `(tactic| show "bi") => `(tactic| first
  | (with_reducible refine b_int ?_)
  | (with_reducible refine b_intb ?_)
  | (with_reducible refine b_abs ?_)
  | (with_reducible refine b_max2 ?_)
  | (with_reducible refine b_min2 ?_)
  | (((with_reducible refine' b_len (n := ?n) ?s1 ?hn ?h); (case s1 => (show "hp"))); (case hn => (simp only [List.length_cons, List.length_nil, List.length_map, List.length_append]; rfl)))
  | (((with_reducible refine' b_lent (n := ?n) ?s1 ?hn ?h); (case s1 => (show "hp"))); (case hn => (simp only [List.length_cons, List.length_nil, List.length_map, List.length_append]; rfl)))
  | (((with_reducible refine' b_lenq (n := ?n) ?s1 ?hn ?h); (case s1 => (show "hq"))); (case hn => (first | (simp only [List.length_map]; rfl) | rfl)))
  | (((with_reducible refine' b_list ?s1 ?nxt); (case s1 => (show "hp")); (case' nxt => skip)); intro _ _ _ _ _)
  | (((with_reducible refine' b_listt ?s1 ?nxt); (case s1 => (show "hp")); (case' nxt => skip)); intro _ _ _ _ _)
  | ((with_reducible refine' o_powc (k := ?k) ?e ?hk ?h); (case e => (unfold CPow; omega)); (case hk => (simp only [Int.reducePow, Int.reduceToNat]; rfl)))
  | ((with_reducible refine' ix_l ?s1 ?s2 ?nxt); (case s1 => (show "hp")); (case s2 => (rfl)); (case' nxt => skip))
  | ((with_reducible refine' ix_t ?s1 ?s2 ?nxt); (case s1 => (show "hp")); (case s2 => (rfl)); (case' nxt => skip))
  | (((with_reducible refine' s_set0 ?s1 ?nxt); (case s1 => (show "hp")); (case' nxt => skip)); intro _ _ _)
  | ((with_reducible refine' f_fld ?s1 ?s2 ?s3 ?s4 ?nxt); (case s1 => (show "hp")); (case s2 => (assumption)); (case s3 => (assumption)); (case s4 => (rfl)); (case' nxt => skip))
  | (((with_reducible refine' s_fldg ?s1 ?s2 ?s3 ?s4 ?nxt); (case s1 => (show "hp")); (case s2 => (assumption)); (case s3 => (assumption)); (case s4 => (show "flen")); (case' nxt => skip)); intro _ _ _)
  | ((with_reducible refine' p_prop ?s1 ?nxt); (case s1 => (show "hp")); (case' nxt => skip))
  | ((with_reducible refine' m_meth ?s1 ?s2 ?nxt); (case s1 => (show "hp")); (case s2 => (rfl)); (case' nxt => skip))
  | ((with_reducible refine' m_methK ?s1 ?s2 ?nxt); (case s1 => (show "hp")); (case s2 => (rfl)); (case' nxt => skip))
  | ((with_reducible refine' g_callK ?s1 ?s2 ?s3 ?nxt); (case s1 => (rfl)); (case s2 => (rfl)); (case s3 => (show "kw")); (case' nxt => skip))
  | ((with_reducible refine' g_gtup ?s1 ?s2 ?nxt); (case s1 => (show "hp")); (case s2 => (rfl)); (case' nxt => skip))
  | ((with_reducible refine' bm_l ?s1 ?nxt); (case s1 => (show "hp")); (case' nxt => skip))
  | ((with_reducible refine' bm0_l ?s1 ?nxt); (case s1 => (show "hp")); (case' nxt => skip))
  | (((with_reducible refine' ap_append ?s1 ?s2 ?nxt); (case s1 => (show "hp")); (case s2 => (show "len")); (case' nxt => skip)); intro _ _ _)
  | ((with_reducible refine' isi_own ?s1 ?s2 ?s3 ?nxt); (case s1 => (show "hp")); (case s2 => (assumption)); (case s3 => (assumption)); (case' nxt => skip))
  | (with_reducible refine isi_ii ?_)
  | (with_reducible refine isi_ib ?_)
  | (with_reducible refine isi_bb ?_)
  | (with_reducible refine isi_bi ?_)
  | ((with_reducible refine' isi_ll ?s1 ?nxt); (case s1 => (show "hp")); (case' nxt => skip))
  | ((with_reducible refine' isi_tt ?s1 ?nxt); (case s1 => (show "hp")); (case' nxt => skip))
  | ((with_reducible refine g_or1 ?_); ((with_reducible refine' g_gtup ?s1 ?s2 ?nxt); (case s1 => (show "hp")); (case s2 => (rfl)); (case' nxt => skip)))
  | ((with_reducible refine g_or2 ?_); ((with_reducible refine' g_glst ?s1 ?s2 ?nxt); (case s1 => (show "hp")); (case s2 => (rfl)); (case' nxt => skip)))
  | (with_reducible refine g_gcons ?_)
  | (with_reducible refine g_gnil ?_)
  | (with_reducible refine g_gsub ?_))
local macro_rules | `(tactic| show "step2") => `(tactic| first
  | show "step"
  | show "op"
  | show "if"
  | show "andr"
  | show "orr"
  | show "notr"
  | show "andv"
  | show "alloc"
  | show "bi"
  | show "own")
local macro_rules | `(tactic| show "go") => `(tactic| repeat show "step2")
-- Same H H' , SB p H H' along the chain, from the back
local macro_rules | `(tactic| show "same") => `(tactic| first
  | assumption
  | exact Same.refl _
  | (((with_reducible refine' Same.trans ?nxt ?s1); (case s1 => (assumption)); (case' nxt => skip)); show "same"))
local macro_rules | `(tactic| show "sb") => `(tactic| first
  | assumption
  | exact SB.refl _ _
  | (((with_reducible refine' SB.trans ?nxt ?s1); (case s1 => (assumption)); (case' nxt => skip)); show "sb")
  | (((with_reducible refine' SB.trans ?nxt (SB.of ?s1)); (case s1 => (assumption)); (case' nxt => skip)); show "sb"))
local macro_rules | `(tactic| show "szf") => `(tactic| first | assumption | ((with_reducible refine' Sz.mono ?s1 ?s2); (case s1 => (show "sz")); (case s2 => (decide))))

-- Q (.bl (decide P)) H from Q (.bl true) H

-- two lists of ints are equal
local macro_rules | `(tactic| show "leq") => `(tactic| first | rfl | assumption | (simp only [List.cons.injEq, and_true, true_and]; omega) | (simp only [List.cons.injEq, and_true, true_and]; (with_reducible refine ⟨?_, ?_⟩) <;> omega))

abbrev fsR (a b d : Int) : List (Str × V) := [("_a", .int a), ("_b", .int b), ("_d", .int d)]
theorem fsR_mk (a b d : Int) : putF "_d" (.int d) (putF "_b" (.int b) (putF "_a" (.int a) [])) = fsR a b d := by
  have h1 : ¬ (("_a" : Str) = "_b") := by decide +kernel
  have h2 : ¬ (("_a" : Str) = "_d") := by decide +kernel
  have h3 : ¬ (("_b" : Str) = "_d") := by decide +kernel
  show putF "_d" (.int d) (if ("_a" : Str) = "_b" then _ else (("_a" : Str), V.int a) :: putF "_b" (.int b) []) = _
  rw [if_neg h1]
  show (if ("_a" : Str) = "_d" then _ else (("_a" : Str), V.int a) :: (if ("_b" : Str) = "_d" then _ else (("_b" : Str), V.int b) :: putF "_d" (.int d) [])) = _
  rw [if_neg h2, if_neg h3]
  rfl
theorem cells_eq0 {x y n : Int} (k : Int) (h : x = y + n * k) : x % n = y % n := by rw [h, Int.add_mul_emod_self_left]
theorem cells_eq (a b d n r c p q : Int) : (a * r + b * c + (a * p + b * q + d)) % n = (a * ((r + p) % n) + b * ((c + q) % n) + d) % n := by
  rw [Int.emod_def (r + p), Int.emod_def (c + q)]
  exact cells_eq0 (a * ((r + p) / n) + b * ((c + q) / n)) (by grind)
theorem cells_eqz (a b d n r c : Int) : (a * r + b * c + d) % n = (a * ((r + 0) % n) + b * ((c + 0) % n) + d) % n := by
  have z := cells_eq a b d n r c 0 0
  simp only [Int.mul_zero, Int.zero_add] at z
  exact z
theorem emod_congr {x y n : Int} (k : Int) (h : x = y + n * k) : x % n = y % n := by rw [h, Int.add_mul_emod_self_left]
theorem step_sign (a b d n r c p q : Int) : (a * ((r+p)%n) + b * ((c+q)%n) + d) % n = ((a*r+b*c+d)%n + (a*p+b*q)) % n := by
  rw [Int.emod_def (r+p) n, Int.emod_def (c+q) n, Int.emod_def (a*r+b*c+d) n]
  exact emod_congr ((a*r+b*c+d)/n - a*((r+p)/n) - b*((c+q)/n)) (by grind)
theorem q_at {Q : VK} {H : Hp} {p : Prop} {dP : Decidable p} {b : Bool} (h : decide p = b) (k : Q (.bl (decide p)) H) : Q (.bl b) H := h ▸ k
def rowV (a b d : Int) (n i : Nat) : List V := (List.range n).map fun (j : Nat) => V.int ((a * (i : Int) + b * (j : Int) + d) % (n : Int))
theorem rowV_at {a b d : Int} {n i j : Nat} (h : j < n) : (rowV a b d n i)[j]? = some (V.int ((a * (i : Int) + b * (j : Int) + d) % (n : Int))) := by
  unfold rowV
  rw [List.getElem?_map, List.getElem?_range h]
  rfl
def rowF (a b d : Int) (n i : Int) : V → Option V := fun v => match v with | .int j => some (.int ((a * i + b * j + d) % n)) | _ => none
theorem rowF_eq (a b d : Int) (n : Int) (i : Nat) (h : 0 ≤ n) : (rngV 0 n.toNat).filterMap (rowF a b d n i) = rowV a b d n.toNat i := by
  unfold rngV rowV
  rw [List.filterMap_map]
  have e : (n.toNat : Int) = n := Int.toNat_of_nonneg h
  have : (rowF a b d n i ∘ fun i : Nat => V.int (0 + (i : Int))) = fun j : Nat => some (V.int ((a * (i : Int) + b * (j : Int) + d) % (n.toNat : Int))) := by
    funext j
    show some (V.int ((a * (i : Int) + b * (0 + (j : Int)) + d) % n)) = _
    rw [Int.zero_add, e]
  rw [this, List.filterMap_eq_map']
/-- the square of a rule stands at t: its rows are lists of their own, new since H -/
def SqAt (a b d : Int) (n : Nat) (t : Addr) (qs : List Addr) (H' : Hp) : Prop := qs.length = n ∧ H' t = some (.lst (qs.map V.ref)) ∧ ∀ (i : Nat) q, qs[i]? = some q → H' q = some (.lst (rowV a b d n i))

local macro_rules | `(tactic| show "step2") => `(tactic| first
  | (with_reducible refine g_try ?_)
  | (with_reducible refine g_methS ?_)
  | (with_reducible refine g_methKS ?_)
  | (with_reducible refine g_callS ?_)
  | (with_reducible refine g_raise ?_)
  | (with_reducible refine g_xd ?_)
  | ((with_reducible refine' xd_at ?s1 ?s2 ?s3 ?s4 ?nxt); (case s1 => (show "hp")); (case s2 => (assumption)); (case s3 => (assumption)); (case s4 => (rfl)); (case' nxt => skip))
  | ((with_reducible refine' is_ty ?s1 ?s2 ?s3 ?nxt); (case s1 => (show "hp")); (case s2 => (assumption)); (case s3 => (assumption)); (case' nxt => skip))
  | ((with_reducible refine' is_ref ?s1 ?s2 ?s3 ?nxt); (case s1 => (show "hp")); (case s2 => (assumption)); (case s3 => (assumption)); (case' nxt => skip)))
local macro_rules | `(tactic| show "go") => `(tactic| repeat first | show "step2" | (rw [List.set_cons_succ]; simp only [List.set_cons_succ, List.set_cons_zero]))

local macro_rules | `(tactic| show "dp") => `(tactic| first
  | exact Dp.int _
  | exact Dp.bl _
  | exact Dp.str _
  | ((with_reducible refine' Dp.lst (SqL.of ?dh) ?dl); (case dh => show "hp"); (case dl => show "dpl"))
  | ((with_reducible refine' Dp.tup (SqT.of ?dh) ?dl); (case dh => show "hp"); (case dl => show "dpl")))
local macro_rules | `(tactic| show "dpl") => `(tactic| first
  | exact DpAll.nil
  | ((with_reducible refine' DpAll.cons ?d1 ?d2); (case d1 => show "dp"); (case d2 => show "dpl")))
local macro_rules | `(tactic| show "shd") => `(tactic| (simp [SeqAt.shaped, PyData.canLay0, PyData.canLayAll0, PyData.depth, PyData.depthAll] <;> decide +kernel))
local macro_rules | `(tactic| show "step2") => `(tactic| first
  | (with_reducible refine g_lcu ?_))
local macro_rules | `(tactic| show "op") => `(tactic| first
  | ((with_reducible refine' o_eqd ?s1 ?s2 ?s3 ?nxt); (case s1 => (show "dp")); (case s2 => (show "dp")); (case s3 => (show "shd")); (case' nxt => skip))
  | ((with_reducible refine' o_ned ?s1 ?s2 ?s3 ?nxt); (case s1 => (show "dp")); (case s2 => (show "dp")); (case s3 => (show "shd")); (case' nxt => skip))
  | ((with_reducible refine o_or1 ?_); show "op")
  | ((with_reducible refine o_or2 ?_); show "op"))

inductive TupZ (H : Hp) : List V → Prop
  | nil : TupZ H []
  | cons {q : Addr} {x y : Int} {xs : List V} (h : H q = some (.tup [.int x, .int y])) (sx : Sz 9000 x) (sy : Sz 9000 y) (r : TupZ H xs) : TupZ H (.ref q :: xs)
theorem TupZ.mem {H : Hp} : ∀ {xs : List V}, TupZ H xs → ∀ v ∈ xs, ∃ q x y, v = .ref q ∧ H q = some (.tup [.int x, .int y]) ∧ Sz 9000 x ∧ Sz 9000 y
  | _, .nil => fun v h => by cases h
  | _, .cons h sx sy r => fun v hv => by
    rcases List.mem_cons.mp hv with rfl | hv
    · exact ⟨_, _, _, rfl, h, sx, sy⟩
    · exact r.mem v hv
local macro_rules | `(tactic| show "tups") => `(tactic| first
  | exact TupZ.nil
  | ((with_reducible refine' TupZ.cons ?th ?tx ?ty ?tr); (case th => show "hp"); (case tx => show "szf"); (case ty => show "szf"); (case tr => show "tups")))
/-- pairs that are no cells of the square of size n -/
inductive BadZ (n : Int) (H : Hp) : List V → Prop
  | nil : BadZ n H []
  | cons {q : Addr} {x y : Int} {xs : List V} (h : H q = some (.tup [.int x, .int y])) (sx : Sz 9000 x) (sy : Sz 9000 y) (bad : x < 0 ∨ n ≤ x ∨ y < 0 ∨ n ≤ y) (r : BadZ n H xs) : BadZ n H (.ref q :: xs)
theorem BadZ.mem {n : Int} {H : Hp} : ∀ {xs : List V}, BadZ n H xs → ∀ v ∈ xs, ∃ q x y, v = .ref q ∧ H q = some (.tup [.int x, .int y]) ∧ Sz 9000 x ∧ Sz 9000 y ∧ (x < 0 ∨ n ≤ x ∨ y < 0 ∨ n ≤ y)
  | _, .nil => fun v h => by cases h
  | _, .cons h sx sy b r => fun v hv => by
    rcases List.mem_cons.mp hv with rfl | hv
    · exact ⟨_, _, _, rfl, h, sx, sy, b⟩
    · exact r.mem v hv
local macro_rules | `(tactic| show "bads") => `(tactic| first
  | exact BadZ.nil
  | ((with_reducible refine' BadZ.cons ?th ?tx ?ty ?tb ?tr); (case th => show "hp"); (case tx => show "szf"); (case ty => show "szf"); (case tb => omega); (case tr => show "bads")))

local macro_rules | `(tactic| show "step2") => `(tactic| first
  | (with_reducible refine g_lset ?_)
  | (with_reducible refine b_gcd ?_))
local macro_rules | `(tactic| show "op") => `(tactic| first
  | (with_reducible refine o_eqI ?_)
  | (with_reducible refine o_neI ?_)
  | ((with_reducible refine' o_eqV ?s1 ?nxt); (case s1 => (rfl)); (case' nxt => skip))
  | ((with_reducible refine' o_neV ?s1 ?nxt); (case s1 => (rfl)); (case' nxt => skip))
  | ((with_reducible refine o_or1 ?_); show "op")
  | ((with_reducible refine o_or2 ?_); show "op"))

theorem gcdZ_one (t : Int) : gcdZ t 1 = 1 := by unfold gcdZ; simp
/-- the signs of a line -/
def sgs (n s t : Int) (i : Nat) : List Int := (List.range i).map fun j : Nat => (s + (j : Int) * t) % n
theorem sgs_len {n s t : Int} {i : Nat} : (sgs n s t i).length = i := by unfold sgs; rw [List.length_map, List.length_range]
theorem sgs_succ {n s t : Int} {i : Nat} : sgs n s t (i + 1) = sgs n s t i ++ [(s + (i : Int) * t) % n] := by unfold sgs; rw [List.range_succ, List.map_append]; rfl
theorem line_sign {a b d n r c p q i : Int} : (a * ((r + i * p) % n) + b * ((c + i * q) % n) + d) % n = (a * r + b * c + d + i * (a * p + b * q)) % n := by
  rw [← cells_eq]
  congr 1
  grind
theorem sgs_nodup {n s t : Int} (hn : 1 ≤ n) : (sgs n s t n.toNat).Nodup ↔ Nat.gcd t.natAbs n.natAbs = 1 := by
  have get : ∀ (i : Nat) (h : i < (sgs n s t n.toNat).length), (sgs n s t n.toNat)[i] = (s + (i : Int) * t) % n := by
    intro i h
    simp only [sgs, List.getElem_map, List.getElem_range]
  constructor
  · intro h
    apply Classical.byContradiction
    intro hg
    have g0 : 0 < Nat.gcd t.natAbs n.natAbs := Nat.gcd_pos_of_pos_right _ (by omega)
    obtain ⟨m, hm⟩ := Nat.gcd_dvd_right t.natAbs n.natAbs
    obtain ⟨u, hu⟩ := Nat.gcd_dvd_left t.natAbs n.natAbs
    generalize Nat.gcd t.natAbs n.natAbs = g at *
    have hm0 : 0 < m := by
      apply Nat.pos_of_ne_zero
      intro z
      rw [z, Nat.mul_zero] at hm
      omega
    have hmn : m < n.toNat := by
      have e : n.toNat = g * m := by omega
      rw [e]
      have : 1 * m < g * m := Nat.mul_lt_mul_of_lt_of_le (by omega) (Nat.le_refl _) hm0
      omega
    have q := List.pairwise_iff_getElem.mp h 0 m (by rw [sgs_len]; omega) (by rw [sgs_len]; exact hmn) hm0
    apply q
    rw [get, get]
    have dv : n ∣ (m : Int) * t := by
      rw [← Int.natAbs_dvd_natAbs, Int.natAbs_mul, Int.natAbs_natCast]
      exact ⟨u, by rw [hm, hu]; grind⟩
    obtain ⟨w, hw⟩ := dv
    rw [hw, Int.add_mul_emod_self_left]
    simp
  · intro hg
    apply List.pairwise_iff_getElem.mpr
    intro i j hi hj hij e
    rw [get, get] at e
    rw [sgs_len] at hi hj
    have h0 := Int.emod_emod_of_dvd (s + (j : Int) * t) (Int.dvd_refl n)
    have h1 : ((s + (j : Int) * t) - (s + (i : Int) * t)) % n = 0 := by rw [Int.sub_emod, e]; simp
    have h2 : n ∣ ((j - i : Nat) : Int) * t := by
      have z := Int.dvd_of_emod_eq_zero h1
      have e2 : (s + (j : Int) * t) - (s + (i : Int) * t) = ((j - i : Nat) : Int) * t := by
        rw [Int.natCast_sub (by omega)]
        grind
      rw [e2] at z
      exact z
    rw [← Int.natAbs_dvd_natAbs, Int.natAbs_mul, Int.natAbs_natCast] at h2
    have h3 : n.natAbs ∣ (j - i) := Nat.Coprime.dvd_of_dvd_mul_right (by rw [Nat.Coprime, Nat.gcd_comm]; exact hg) h2
    have := Nat.le_of_dvd (by omega) h3
    omega
theorem sgs_dd {n s t : Int} (hn : 1 ≤ n) : (((dd (sgs n s t n.toNat)).length : Nat) : Int) = n ↔ (gcdZ t n) = 1 := by
  have h := dd_len (sgs n s t n.toNat)
  rw [sgs_nodup hn, sgs_len] at h
  unfold gcdZ
  omega

local macro_rules | `(tactic| show "beq") => `(tactic| first | rfl | assumption | ((with_reducible refine' decide_eq_decide.mpr ?s1); (case s1 => (rw [Int.add_comm]))) | exact decide_eq_true (gcdZ_one _))

local macro_rules | `(tactic| show "mulok") => `(tactic| ((with_reducible refine' Big.mul ?s1 ?s2); (case s1 => (assumption)); (case s2 => (assumption))))
local macro_rules | `(tactic| show "mulok") => `(tactic| ((with_reducible refine' mul_big ?s1 ?s2 ?s3); (case s1 => (show "sz")); (case s2 => (show "sz")); (case s3 => (decide))))
local macro_rules | `(tactic| show "mulok") => `(tactic| first
  | assumption
  | ((with_reducible refine mul_okl ?_); omega)
  | ((with_reducible refine mul_okr ?_); omega)
  | ((with_reducible refine' mul_ok ?s1 ?s2 ?s3); (case s1 => (show "sz")); (case s2 => (show "sz")); (case s3 => (decide))))
local macro_rules | `(tactic| show "step2") => `(tactic| first
  | (with_reducible refine g_chain ?_)
  | (with_reducible refine g_sl ?_)
  | (with_reducible refine g_part ?_)
  | (with_reducible refine part_at ?_)
  | (with_reducible refine g_nopart ?_)
  | (((with_reducible refine' sl_at ?s1 ?s2 ?nxt); (case s1 => (show "hp")); (case s2 => (rfl)); (case' nxt => skip)); intro _ _ _ _ _))

theorem b_absn {H : Hp} {Q : VK} {i : Int} (h : Q (.int (i.natAbs : Int)) H) : rAbs1 [.int i] H Q := b_abs (by
  have e : (if i < 0 then -i else i) = (i.natAbs : Int) := by split <;> omega
  rw [e]; exact h)
theorem b_max2g {H : Hp} {Q : VK} {i j : Int} (h : ∀ k : Int, i ≤ k → j ≤ k → (k = i ∨ k = j) → Q (.int k) H) : rMax2 [.int i, .int j] H Q := b_max2 (h _ (by split <;> omega) (by split <;> omega) (by split <;> omega))
/-- a cell, or none -/
def Opt (H : Hp) (v : V) : Option (Int × Int) → Prop
  | none => v = .non
  | some c => ∃ q, v = .ref q ∧ H q = some (.tup [.int c.1, .int c.2])
theorem Opt.same {H H' : Hp} {v : V} {o : Option (Int × Int)} (h : Opt H v o) (s : Same H H') : Opt H' v o := by
  cases o with
  | none => exact h
  | some c => obtain ⟨q, e, h⟩ := h; exact ⟨q, e, s _ _ h⟩
/-- where the sign of (0, 0) is met again -/
def quo (n p q t : Int) : Option (Int × Int) := if (gcdZ t n) = 1 then none else some (n / (gcdZ t n) * p % n, n / (gcdZ t n) * q % n)
theorem quo_1 {n p q t : Int} (h : (gcdZ t n) = 1) : quo n p q t = none := if_pos h
theorem quo_2 {n p q t : Int} (h : ¬ (gcdZ t n) = 1) : quo n p q t = some (n / (gcdZ t n) * p % n, n / (gcdZ t n) * q % n) := if_neg h
theorem prod_bd {x y : Int} (m n : Int) (h1 : -m ≤ x) (h2 : x ≤ m) (h3 : -n ≤ y) (h4 : y ≤ n) : -(m * n) ≤ x * y ∧ x * y ≤ m * n := by
  have e1 : (x * y).natAbs ≤ m.natAbs * n.natAbs := by rw [Int.natAbs_mul]; exact Nat.mul_le_mul (by omega) (by omega)
  have e2 : ((m.natAbs * n.natAbs : Nat) : Int) = m * n := by rw [Int.natCast_mul, Int.natAbs_of_nonneg (by omega), Int.natAbs_of_nonneg (by omega)]
  omega
theorem Opt.no {H : Hp} {n p q t : Int} (e : gcdZ t n = 1) : Opt H .non (quo n p q t) := by rw [quo_1 e]; exact (rfl : V.non = V.non)
theorem Opt.at {H : Hp} {x : Addr} {n p q t : Int} (e : ¬ gcdZ t n = 1) (h : H x = some (.tup [.int (n / gcdZ t n * p % n), .int (n / gcdZ t n * q % n)])) : Opt H (.ref x) (quo n p q t) := by rw [quo_2 e]; exact ⟨x, rfl, h⟩
local macro_rules | `(tactic| show "opt") => `(tactic| first | assumption | ((with_reducible refine' Opt.same ?oh ?os); (case os => assumption); (case oh => show "opt")))
theorem gcd_facts {t n : Int} (hn : 1 ≤ n) : 1 ≤ (gcdZ t n) ∧ (gcdZ t n) ≤ n ∧ 1 ≤ n / (gcdZ t n) ∧ n / (gcdZ t n) ≤ n := by
  unfold gcdZ
  have g0 : 0 < Nat.gcd t.natAbs n.natAbs := Nat.gcd_pos_of_pos_right _ (by omega)
  have g1 : Nat.gcd t.natAbs n.natAbs ≤ n.natAbs := Nat.gcd_le_right _ (by omega)
  refine ⟨by omega, by omega, ?_, Int.ediv_le_self _ (by omega)⟩
  rw [Int.le_ediv_iff_mul_le (by omega)]
  omega
/-- j times t is 0 by n exactly if n over the greatest common divisor divides j -/
theorem times_zero {n t : Int} (hn : 1 ≤ n) (j : Nat) : ((j : Int) * t) % n = 0 ↔ (n.natAbs / Nat.gcd t.natAbs n.natAbs) ∣ j := by
  have g0 : 0 < Nat.gcd t.natAbs n.natAbs := Nat.gcd_pos_of_pos_right _ (by omega)
  rw [← Int.dvd_iff_emod_eq_zero, ← Int.natAbs_dvd_natAbs, Int.natAbs_mul, Int.natAbs_natCast]
  have cop : Nat.Coprime (n.natAbs / Nat.gcd t.natAbs n.natAbs) (t.natAbs / Nat.gcd t.natAbs n.natAbs) := by
    rw [Nat.Coprime, Nat.gcd_comm]
    rw [Nat.gcd_div (Nat.gcd_dvd_left _ _) (Nat.gcd_dvd_right _ _), Nat.div_self g0]
  obtain ⟨u, hu⟩ := Nat.gcd_dvd_left t.natAbs n.natAbs
  obtain ⟨m, hm⟩ := Nat.gcd_dvd_right t.natAbs n.natAbs
  generalize hg : Nat.gcd t.natAbs n.natAbs = g at *
  have e1 : n.natAbs / g = m := by rw [hm]; exact Nat.mul_div_cancel_left _ g0
  have e2 : t.natAbs / g = u := by rw [hu]; exact Nat.mul_div_cancel_left _ g0
  rw [e1, e2] at cop
  rw [e1, hm, hu]
  have e3 : j * (g * u) = g * (j * u) := by rw [Nat.mul_left_comm]
  rw [e3, Nat.mul_dvd_mul_iff_left g0]
  constructor
  · intro h
    exact Nat.Coprime.dvd_of_dvd_mul_right cop h
  · intro h
    exact Nat.dvd_mul_right_of_dvd h u
theorem quo_nat {n t : Int} (hn : 1 ≤ n) : n / (gcdZ t n) = ((n.natAbs / Nat.gcd t.natAbs n.natAbs : Nat) : Int) := by
  unfold gcdZ
  rw [Int.natCast_ediv, Int.natAbs_of_nonneg (by omega)]
theorem quo_times {n t : Int} (hn : 1 ≤ n) : n / gcdZ t n = n ↔ gcdZ t n = 1 := by
  constructor
  · intro h
    rw [quo_nat hn] at h
    have h2 : n.natAbs / Nat.gcd t.natAbs n.natAbs = n.natAbs := by omega
    rcases Nat.div_eq_self.mp h2 with h3 | h3
    · omega
    · unfold gcdZ; rw [h3]; rfl
  · intro h
    rw [h, Int.ediv_one]
theorem quo_zero {n a b p q : Int} (hn : 1 ≤ n) : (a * (n / (gcdZ (a * p + b * q) n) * p % n) + b * (n / (gcdZ (a * p + b * q) n) * q % n)) % n = 0 := by
  rw [quo_nat hn]
  have h := (times_zero (t := a * p + b * q) hn (n.natAbs / Nat.gcd (a * p + b * q).natAbs n.natAbs)).mpr (Nat.dvd_refl _)
  generalize n.natAbs / Nat.gcd (a * p + b * q).natAbs n.natAbs = e at *
  have z := line_sign (a := a) (b := b) (d := 0) (n := n) (r := 0) (c := 0) (p := p) (q := q) (i := (e : Int))
  simp only [Int.zero_add, Int.add_zero, Int.mul_zero] at z
  rw [z]
  exact h

local macro_rules | `(tactic| show "step2") => `(tactic| first
  | (with_reducible refine b_absn ?_)
  | ((with_reducible refine b_max2g ?_); intro _ _ _ _))
local macro_rules | `(tactic| show "tops") => `(tactic| (intro t ht; simp only [List.mem_cons, List.not_mem_nil, or_false] at ht; rcases ht with rfl | rfl | rfl | rfl | rfl | rfl | rfl | rfl | rfl | rfl | rfl | rfl | rfl | rfl | rfl | rfl <;> ((with_reducible refine ⟨?_, ?_⟩) <;> show "tsz")))
local macro_rules | `(tactic| show "tsz") => `(tactic| first
  | omega
  | ((with_reducible refine' Sz.mono (Sz.mk ?s1 : Sz 300 _) ?s2); (case s1 => (omega)); (case s2 => (decide)))
  | show "szf")

local macro_rules | `(tactic| show "tl") => `(tactic| first
  | assumption
  | exact TL.empty
  | ((with_reducible refine' TL.int ?s1); (case s1 => (show "szf")))
  | ((with_reducible refine' TL.app ?s1 ?s2); (case s1 => (show "tl")); (case s2 => (show "tl")))
  | exact (show TL 60 _ from by unfold TL; decide +kernel))
local macro_rules | `(tactic| show "step2") => `(tactic| first
  | (with_reducible refine g_fmt ?_)
  | ((with_reducible refine' fmt_int ?s1 ?nxt); (case s1 => (show "szf")); (case' nxt => skip))
  | (with_reducible refine g_fs ?_)
  | (with_reducible refine js_nil ?_)
  | (with_reducible refine js_cons ?_)
  | ((with_reducible refine' js_at ?s1 ?s2 ?s3 ?nxt); (case s1 => (show "tl")); (case s2 => (show "tl")); (case s3 => (decide)); (case' nxt => skip))
  | (with_reducible refine g_m1 ?_)
  | (with_reducible refine m1_at ?_)
  | ((with_reducible refine' b_str ?s1 ?nxt); (case s1 => (show "szf")); (case' nxt => skip))
  | (((with_reducible refine' s_setl (n := 1) ?s1 ?s2 ?nxt); (case s1 => (show "hp")); (case s2 => (rfl)); (case' nxt => skip)); intro _ _ _))
local macro_rules | `(tactic| show "op") => `(tactic| first
  | ((with_reducible refine' o_adds ?s1 ?s2 ?s3 ?nxt); (case s1 => (show "tl")); (case s2 => (show "tl")); (case s3 => (decide)); (case' nxt => skip))
  | ((with_reducible refine' w_ownI ?s1 ?nxt); (case s1 => (show "hp")); (case' nxt => skip))
  | (with_reducible refine o_eqs ?_)
  | (with_reducible refine o_nes ?_)
  | ((with_reducible refine o_or1 ?_); show "op")
  | ((with_reducible refine o_or2 ?_); show "op"))
def rtx (a b d : Int) : Str := tx a ++ "r + " ++ tx b ++ "c + " ++ tx d

local macro_rules | `(tactic| show "step2") => `(tactic| first
  | (with_reducible refine g_m0 ?_)
  | (with_reducible refine m0_at ?_)
  | ((with_reducible refine' o_ia ?s1 ?nxt); (case s1 => (assumption)); (case' nxt => skip))
  | ((with_reducible refine' o_id ?s1 ?nxt); (case s1 => (assumption)); (case' nxt => skip))
  | ((with_reducible refine' o_sw ?s1 ?nxt); (case s1 => (assumption)); (case' nxt => skip))
  | ((with_reducible refine' o_ew ?s1 ?nxt); (case s1 => (assumption)); (case' nxt => skip))
  | (((with_reducible refine' o_split ?s1 ?s2 ?s3 ?nxt); (case s1 => (assumption)); (case s2 => (decide +kernel)); (case s3 => (show "stl")); (case' nxt => skip)); intro _ _ _ _ _)
  | ((with_reducible refine' b_lens ?s1 ?nxt); (case s1 => (omega)); (case' nxt => skip))
  | ((with_reducible refine' b_ints ?s1 ?s2 ?nxt); (case s1 => (assumption)); (case s2 => (first | omega | (rw [List.length_cons]; omega))); (case' nxt => skip))
  | ((with_reducible refine' o_slx ?s1 ?s2 ?nxt); (case s1 => (assumption)); (case s2 => (show "stl")); (case' nxt => skip)))
local macro_rules | `(tactic| show "stl") => `(tactic| (rw [SX.S_len]; (try simp only [List.length_append, List.length_cons, List.length_nil]); omega))

theorem in_none3i {K : PySem.W.Frag} {H : Hp} {Q : VK} {a : Addr} {x y z : Int} (h1 : H a = some (.tup [.int x, .int y, .int z])) (k : Q (.bl false) H) : rIn K false .non (.ref a) H Q := in_none3 (p := some x) (q := some y) (r := some z) h1 k
local macro_rules | `(tactic| show "op") => `(tactic| ((with_reducible refine' in_none3i ?s1 ?nxt); (case s1 => (show "hp")); (case' nxt => skip)))
theorem rtx_S (a b d : Int) : rtx a b d = S (ruleL a b d) := by
  unfold rtx
  rw [tx_S, tx_S, tx_S]
  show S (itx a) ++ S [114, 32, 43, 32] ++ S (itx b) ++ S [99, 32, 43, 32] ++ S (itx d) = _
  rw [SX.S_cat, SX.S_cat, SX.S_cat, SX.S_cat]
  unfold ruleL
  congr 1
  simp

local macro_rules | `(tactic| show "tk") => `(tactic| first
  | assumption
  | ((with_reducible refine' TK.lit ?s1 ?s2); (case s1 => (decide +kernel)); (case s2 => (decide +kernel)))
  | ((with_reducible refine' TK.app ?s1 ?s2); (case s1 => (show "tk")); (case s2 => (show "tk")))
  | ((with_reducible refine' TK.sl ?s1); (case s1 => (show "tk")))
  | ((with_reducible refine' TK.tx ?s1); (case s1 => (show "szf"))))
local macro_rules | `(tactic| show "step2") => `(tactic| first
  | (with_reducible refine g_lcs ?_)
  | ((with_reducible refine' ixs0 ?s1 ?nxt); (case s1 => (omega)); (case' nxt => skip)))
local macro_rules | `(tactic| show "op") => `(tactic| first
  | (with_reducible refine o_nin10 ?_)
  | ((with_reducible refine o_or1 ?_); show "op")
  | ((with_reducible refine o_or2 ?_); show "op"))

def wF : V → Option V
  | .str y => some (numV (numI y.cps.toList))
  | _ => none
def nF : V → Option V
  | .non => some .non
  | _ => none
theorem o_nnon {K : PySem.W.Frag} {H : Hp} {Q : VK} {a b : Addr} {xs : List V} (h1 : H a = some (.lst xs)) (e : xs = [.non] ∨ xs = [.non, .non] ∨ xs = [.non, .non, .non]) (h2 : H b = some (.lst [])) (k : Q (.bl true) H) : rNeD K (.ref a) (.ref b) H Q := by
  rcases e with rfl | rfl | rfl
  · exact o_ne0 h1 h2 (.cons Dp.non .nil) rfl k
  · exact o_ne0 h1 h2 (.cons Dp.non (.cons Dp.non .nil)) rfl k
  · exact o_ne0 h1 h2 (.cons Dp.non (.cons Dp.non (.cons Dp.non .nil))) rfl k

local macro_rules | `(tactic| show "op") => `(tactic| ((with_reducible refine' in_none3 ?s1 ?nxt); (case s1 => (show "hp")); (case' nxt => skip)))

local macro_rules | `(tactic| show "small") => `(tactic| first | assumption | decide | omega)
local macro_rules | `(tactic| show "step2") => `(tactic| first
  | ((with_reducible refine' o_sla ?s1 ?s2 ?nxt); (case s1 => (show "tk")); (case s2 => (show "small")); (case' nxt => skip))
  | ((with_reducible refine' b_lena ?s1 ?s2 ?nxt); (case s1 => (show "tk")); (case s2 => (show "small")); (case' nxt => skip))
  | (((with_reducible refine' o_ixk ?s1 ?s2 ?s3 ?s4 ?nxt); (case s1 => (show "tk")); (case s2 => (show "small")); (case s3 => (omega)); (case s4 => (omega)); (case' nxt => skip)); intro _ _))
local macro_rules | `(tactic| show "op") => `(tactic| first
  | ((with_reducible refine' o_addk ?s1 ?s2 ?s3 ?nxt); (case s1 => (show "tk")); (case s2 => (show "tk")); (case s3 => (show "small")); (case' nxt => skip))
  | (((with_reducible refine' o_mul7 ?s1 ?s2 ?nxt); (case s1 => (omega)); (case s2 => (omega)); (case' nxt => skip)); intro _ _)
  | ((with_reducible refine o_or1 ?_); show "op")
  | ((with_reducible refine o_or2 ?_); show "op"))

structure Hld (P : Prop) : Prop where
  out : P
local macro_rules | `(tactic| show "op") => `(tactic| ((with_reducible refine' o_innum ?s1 ?s2 ?nxt); (case s1 => (show "hp")); (case s2 => (assumption)); (case' nxt => skip)))
local macro_rules | `(tactic| show "step2") => `(tactic| (((with_reducible refine' o_splitS ?s1 ?s2 ?s3 ?nxt); (case s1 => (assumption)); (case s2 => (decide +kernel)); (case s3 => (show "stl")); (case' nxt => skip)); intro _ _ _ _ _))
local macro_rules | `(tactic| show "op") => `(tactic| ((with_reducible refine' o_inrows ?s1 ?s2 ?s3 ?nxt); (case s1 => (show "hp")); (case s2 => (assumption)); (case s3 => (assumption)); (case' nxt => skip)))
local macro_rules | `(tactic| show "op") => `(tactic| (((with_reducible refine' o_mul7k ?s1 ?s2 ?nxt); (case s1 => (omega)); (case s2 => (omega)); (case' nxt => skip)); intro _ _))

def intOf (v : V) : Option Int := match v with | .int i => some i | _ => none
theorem ints_fm : ∀ ns : List Int, (ns.map V.int).filterMap intOf = ns
  | [] => rfl
  | n :: ns => by rw [List.map_cons, List.filterMap_cons]; show n :: _ = _; rw [ints_fm ns]
def rowOf (H : Hp) (v : V) : Option V := match v with | .ref q => (match H q with | some (.lst xs) => some (.str (rowTx (xs.filterMap intOf))) | _ => none) | _ => none
theorem rowOf_at {H : Hp} {q : Addr} {ns : List Int} (h : H q = some (.lst (ns.map V.int))) : rowOf H (.ref q) = some (.str (rowTx ns)) := by
  show (match H q with | some (.lst xs) => some (V.str (rowTx (xs.filterMap intOf))) | _ => none) = _
  rw [h]
  show some (V.str (rowTx ((ns.map V.int).filterMap intOf))) = _
  rw [ints_fm]
theorem rows_fm {H : Hp} : ∀ {qs : List Addr} {nss : List (List Int)}, Rows H qs nss → (qs.map V.ref).filterMap (rowOf H) = (nss.map rowTx).map V.str
  | _, _, .nil => rfl
  | _, _, .cons h r => by rw [List.map_cons, List.filterMap_cons, rowOf_at h]; show V.str _ :: _ = _; rw [rows_fm r]; rfl
def txOf (v : V) : Option V := match v with | .int i => some (.str (tx i)) | _ => none
theorem tx_fm : ∀ ns : List Int, (ns.map V.int).filterMap txOf = (ns.map tx).map V.str
  | [] => rfl
  | n :: ns => by rw [List.map_cons, List.filterMap_cons]; show V.str (tx n) :: _ = _; rw [tx_fm ns]; rfl

local macro_rules | `(tactic| show "rows") => `(tactic| first | assumption | (((with_reducible refine' Rows.same ?s1 ?s2); (case s1 => (show "rows")); (case s2 => (assumption)))))

/-! ### the text by places -/
def top (i : Nat) : Stmt := PySem.Challenge.pw_rulesquares_k69_squares_are_read.main.body.getD i (.Pass ⟨0, 0, 0, 0⟩)
abbrev s__law_dip : Stmt := top 11
abbrev N__law_dip : List Str := ["well", "many", "number", "turn"]
theorem sc__law_dip : FnScope N__law_dip ["well", "many"] (defScope s__law_dip) := ⟨rfl, rfl, rfl, by decide +kernel, rfl, by decide +kernel, by decide +kernel⟩
abbrev s__law_great : Stmt := top 12
abbrev N__law_great : List Str := ["well", "limit", "number", "turn"]
theorem sc__law_great : FnScope N__law_great ["well", "limit"] (defScope s__law_great) := ⟨rfl, rfl, rfl, by decide +kernel, rfl, by decide +kernel, by decide +kernel⟩
abbrev s__law_odd_text : Stmt := top 20
abbrev N__law_odd_text : List Str := ["well", "texts"]
theorem sc__law_odd_text : FnScope N__law_odd_text ["well"] (defScope s__law_odd_text) := ⟨rfl, rfl, rfl, by decide +kernel, rfl, by decide +kernel, by decide +kernel⟩
abbrev s__law_signed : Stmt := top 13
abbrev N__law_signed : List Str := ["well", "digits", "length", "limit", "turn"]
theorem sc__law_signed : FnScope N__law_signed ["well", "digits"] (defScope s__law_signed) := ⟨rfl, rfl, rfl, by decide +kernel, rfl, by decide +kernel, by decide +kernel⟩
abbrev s__law_char : Stmt := top 16
abbrev N__law_char : List Str := ["well", "chars", "near"]
theorem sc__law_char : FnScope N__law_char ["well"] (defScope s__law_char) := ⟨rfl, rfl, rfl, by decide +kernel, rfl, by decide +kernel, by decide +kernel⟩
abbrev s__law_spoilt : Stmt := top 17
abbrev N__law_spoilt : List Str := ["well", "text", "at", "manner", "two"]
theorem sc__law_spoilt : FnScope N__law_spoilt ["well", "text"] (defScope s__law_spoilt) := ⟨rfl, rfl, rfl, by decide +kernel, rfl, by decide +kernel, by decide +kernel⟩
abbrev s__law_case : Stmt := top 21
abbrev N__law_case : List Str := ["well", "many", "digits", "rows", "turn", "row", "good", "manner", "long", "great", "words", "text", "again", "one"]
theorem sc__law_case : FnScope N__law_case ["well"] (defScope s__law_case) := ⟨rfl, rfl, rfl, by decide +kernel, rfl, by decide +kernel, by decide +kernel⟩
abbrev s__law_integers : Stmt := top 18
abbrev N__law_integers : List Str := ["told", "one"]
theorem sc__law_integers : FnScope N__law_integers ["told"] (defScope s__law_integers) := ⟨rfl, rfl, rfl, by decide +kernel, rfl, by decide +kernel, by decide +kernel⟩
abbrev s_SquareError___init__ : Stmt := inClass (top 1) 0
abbrev N_SquareError___init__ : List Str := ["self", "value"]
theorem sc_SquareError___init__ : FnScope N_SquareError___init__ ["self", "value"] (defScope s_SquareError___init__) := ⟨rfl, rfl, rfl, by decide +kernel, rfl, by decide +kernel, by decide +kernel⟩
abbrev s__integer : Stmt := top 8
abbrev N__integer : List Str := ["text", "digits"]
theorem sc__integer : FnScope N__integer ["text"] (defScope s__integer) := ⟨rfl, rfl, rfl, by decide +kernel, rfl, by decide +kernel, by decide +kernel⟩
abbrev s__integers : Stmt := top 7
abbrev N__integers : List Str := ["words", "numbers", "word"]
theorem sc__integers : FnScope N__integers ["words"] (defScope s__integers) := ⟨rfl, rfl, rfl, by decide +kernel, rfl, by decide +kernel, by decide +kernel⟩
abbrev s_read_square : Stmt := top 6
abbrev N_read_square : List Str := ["text", "rows", "row_text"]
theorem sc_read_square : FnScope N_read_square ["text"] (defScope s_read_square) := ⟨rfl, rfl, rfl, by decide +kernel, rfl, by decide +kernel, by decide +kernel⟩
abbrev s_show_square : Stmt := top 4
abbrev N_show_square : List Str := ["rows", "row", "number"]
theorem sc_show_square : FnScope N_show_square ["rows"] (defScope s_show_square) := ⟨rfl, rfl, rfl, by decide +kernel, rfl, by decide +kernel, by decide +kernel⟩
abbrev s__law_long_right : Stmt := top 25
abbrev N__law_long_right : List Str := ["well", "wide", "many", "rows", "text", "told", "turn", "again", "row", "number"]
theorem sc__law_long_right : FnScope N__law_long_right ["well"] (defScope s__law_long_right) := ⟨rfl, rfl, rfl, by decide +kernel, rfl, by decide +kernel, by decide +kernel⟩
abbrev s__law_base : Stmt := top 23
abbrev N__law_base : List Str := ["text", "told", "e"]
theorem sc__law_base : FnScope N__law_base ["text"] (defScope s__law_base) := ⟨rfl, rfl, rfl, by decide +kernel, rfl, by decide +kernel, by decide +kernel⟩
abbrev s__law_read : Stmt := top 22
abbrev N__law_read : List Str := ["text", "told", "e"]
theorem sc__law_read : FnScope N__law_read ["text"] (defScope s__law_read) := ⟨rfl, rfl, rfl, by decide +kernel, rfl, by decide +kernel, by decide +kernel⟩
abbrev s__law_word : Stmt := top 14
abbrev N__law_word : List Str := ["word", "digits", "sign"]
theorem sc__law_word : FnScope N__law_word ["word"] (defScope s__law_word) := ⟨rfl, rfl, rfl, by decide +kernel, rfl, by decide +kernel, by decide +kernel⟩
abbrev s__law_words : Stmt := top 15
abbrev N__law_words : List Str := ["words", "found", "word", "one"]
theorem sc__law_words : FnScope N__law_words ["words"] (defScope s__law_words) := ⟨rfl, rfl, rfl, by decide +kernel, rfl, by decide +kernel, by decide +kernel⟩
abbrev s__law_square : Stmt := top 19
abbrev N__law_square : List Str := ["text", "rows", "row", "words"]
theorem sc__law_square : FnScope N__law_square ["text"] (defScope s__law_square) := ⟨rfl, rfl, rfl, by decide +kernel, rfl, by decide +kernel, by decide +kernel⟩
abbrev s__law_right : Stmt := top 24
abbrev N__law_right : List Str := ["text", "due", "turn", "told", "at", "row"]
theorem sc__law_right : FnScope N__law_right ["text"] (defScope s__law_right) := ⟨rfl, rfl, rfl, by decide +kernel, rfl, by decide +kernel, by decide +kernel⟩
abbrev s__law_well : Stmt := top 10
abbrev N__law_well : List Str := ["script", "k", "cell"]
theorem sc__law_well : FnScope N__law_well ["script", "k"] (defScope s__law_well) := ⟨rfl, rfl, rfl, by decide +kernel, rfl, by decide +kernel, by decide +kernel⟩
abbrev s_law : Stmt := top 26
abbrev N_law : List Str := ["script", "k", "good", "text"]
theorem sc_law : FnScope N_law ["script"] (defScope s_law) := ⟨rfl, rfl, rfl, by decide +kernel, rfl, by decide +kernel, by decide +kernel⟩
/-! ### what the top has left -/
structure Txt (K : PySem.W.Frag) (mg : Str → Option Value) : Type where
  C_SquareError : Addr
  C_Unreadable : Addr
  f__law_dip : Addr
  fd__law_dip : FuncData
  f__law_great : Addr
  fd__law_great : FuncData
  f__law_odd_text : Addr
  fd__law_odd_text : FuncData
  f__law_signed : Addr
  fd__law_signed : FuncData
  f__law_char : Addr
  fd__law_char : FuncData
  f__law_spoilt : Addr
  fd__law_spoilt : FuncData
  f__law_case : Addr
  fd__law_case : FuncData
  f__law_integers : Addr
  fd__law_integers : FuncData
  f_SquareError___init__ : Addr
  fd_SquareError___init__ : FuncData
  f__integer : Addr
  fd__integer : FuncData
  f__integers : Addr
  fd__integers : FuncData
  f_read_square : Addr
  fd_read_square : FuncData
  f_show_square : Addr
  fd_show_square : FuncData
  f__law_long_right : Addr
  fd__law_long_right : FuncData
  f__law_base : Addr
  fd__law_base : FuncData
  f__law_read : Addr
  fd__law_read : FuncData
  f__law_word : Addr
  fd__law_word : FuncData
  f__law_words : Addr
  fd__law_words : FuncData
  f__law_square : Addr
  fd__law_square : FuncData
  f__law_right : Addr
  fd__law_right : FuncData
  f__law_well : Addr
  fd__law_well : FuncData
  f_law : Addr
  fd_law : FuncData
  gC_SquareError : mg "SquareError" = some (.ref C_SquareError)
  gC_Unreadable : mg "Unreadable" = some (.ref C_Unreadable)
  F__law_dip : Fun K "_law_dip" "_law_dip" s__law_dip f__law_dip fd__law_dip
  b__law_dip : Binds K fd__law_dip ["well", "many"] []
  g__law_dip : mg "_law_dip" = some (.ref f__law_dip)
  F__law_great : Fun K "_law_great" "_law_great" s__law_great f__law_great fd__law_great
  b__law_great : Binds K fd__law_great ["well", "limit"] []
  g__law_great : mg "_law_great" = some (.ref f__law_great)
  F__law_odd_text : Fun K "_law_odd_text" "_law_odd_text" s__law_odd_text f__law_odd_text fd__law_odd_text
  b__law_odd_text : Binds K fd__law_odd_text ["well"] []
  g__law_odd_text : mg "_law_odd_text" = some (.ref f__law_odd_text)
  F__law_signed : Fun K "_law_signed" "_law_signed" s__law_signed f__law_signed fd__law_signed
  b__law_signed : Binds K fd__law_signed ["well", "digits"] []
  g__law_signed : mg "_law_signed" = some (.ref f__law_signed)
  F__law_char : Fun K "_law_char" "_law_char" s__law_char f__law_char fd__law_char
  b__law_char : Binds K fd__law_char ["well"] []
  g__law_char : mg "_law_char" = some (.ref f__law_char)
  F__law_spoilt : Fun K "_law_spoilt" "_law_spoilt" s__law_spoilt f__law_spoilt fd__law_spoilt
  b__law_spoilt : Binds K fd__law_spoilt ["well", "text"] []
  g__law_spoilt : mg "_law_spoilt" = some (.ref f__law_spoilt)
  F__law_case : Fun K "_law_case" "_law_case" s__law_case f__law_case fd__law_case
  b__law_case : Binds K fd__law_case ["well"] []
  g__law_case : mg "_law_case" = some (.ref f__law_case)
  F__law_integers : Fun K "_law_integers" "_law_integers" s__law_integers f__law_integers fd__law_integers
  b__law_integers : Binds K fd__law_integers ["told"] []
  g__law_integers : mg "_law_integers" = some (.ref f__law_integers)
  F_SquareError___init__ : Fun K "__init__" "SquareError.__init__" s_SquareError___init__ f_SquareError___init__ fd_SquareError___init__
  b_SquareError___init__ : Binds K fd_SquareError___init__ ["self", "value"] []
  me_SquareError___init__ : Meth K C_SquareError "__init__" f_SquareError___init__
  F__integer : Fun K "_integer" "_integer" s__integer f__integer fd__integer
  b__integer : Binds K fd__integer ["text"] []
  g__integer : mg "_integer" = some (.ref f__integer)
  F__integers : Fun K "_integers" "_integers" s__integers f__integers fd__integers
  b__integers : Binds K fd__integers ["words"] []
  g__integers : mg "_integers" = some (.ref f__integers)
  F_read_square : Fun K "read_square" "read_square" s_read_square f_read_square fd_read_square
  b_read_square : Binds K fd_read_square ["text"] []
  g_read_square : mg "read_square" = some (.ref f_read_square)
  F_show_square : Fun K "show_square" "show_square" s_show_square f_show_square fd_show_square
  b_show_square : Binds K fd_show_square ["rows"] []
  g_show_square : mg "show_square" = some (.ref f_show_square)
  F__law_long_right : Fun K "_law_long_right" "_law_long_right" s__law_long_right f__law_long_right fd__law_long_right
  b__law_long_right : Binds K fd__law_long_right ["well"] []
  g__law_long_right : mg "_law_long_right" = some (.ref f__law_long_right)
  F__law_base : Fun K "_law_base" "_law_base" s__law_base f__law_base fd__law_base
  b__law_base : Binds K fd__law_base ["text"] []
  g__law_base : mg "_law_base" = some (.ref f__law_base)
  F__law_read : Fun K "_law_read" "_law_read" s__law_read f__law_read fd__law_read
  b__law_read : Binds K fd__law_read ["text"] []
  g__law_read : mg "_law_read" = some (.ref f__law_read)
  F__law_word : Fun K "_law_word" "_law_word" s__law_word f__law_word fd__law_word
  b__law_word : Binds K fd__law_word ["word"] []
  g__law_word : mg "_law_word" = some (.ref f__law_word)
  F__law_words : Fun K "_law_words" "_law_words" s__law_words f__law_words fd__law_words
  b__law_words : Binds K fd__law_words ["words"] []
  g__law_words : mg "_law_words" = some (.ref f__law_words)
  F__law_square : Fun K "_law_square" "_law_square" s__law_square f__law_square fd__law_square
  b__law_square : Binds K fd__law_square ["text"] []
  g__law_square : mg "_law_square" = some (.ref f__law_square)
  F__law_right : Fun K "_law_right" "_law_right" s__law_right f__law_right fd__law_right
  b__law_right : Binds K fd__law_right ["text"] []
  g__law_right : mg "_law_right" = some (.ref f__law_right)
  F__law_well : Fun K "_law_well" "_law_well" s__law_well f__law_well fd__law_well
  b__law_well : Binds K fd__law_well ["script", "k"] []
  g__law_well : mg "_law_well" = some (.ref f__law_well)
  F_law : Fun K "law" "law" s_law f_law fd_law
  b_law : Binds K fd_law ["script"] []
  g_law : mg "law" = some (.ref f_law)
  z_bool : mg "bool" = none
  z_int : mg "int" = none
  z_isinstance : mg "isinstance" = none
  z_len : mg "len" = none
  z_list : mg "list" = none
  z_max : mg "max" = none
  z_min : mg "min" = none
  z_range : mg "range" = none
  z_str : mg "str" = none
  er_Unreadable : Erc K C_Unreadable
  vn_Unreadable : PySem.W.findIn K (.ref C_Unreadable) "value" = some none
  ii_Unreadable : PySem.W.findIn K (.ref C_Unreadable) "__init__" = some (some (.ref f_SquareError___init__))
  ti_Unreadable : PySem.W.typeIn K (.ref f_SquareError___init__) = some (.type "function")
  em_Unreadable_Unreadable : PySem.W.exmOne K (.ref C_Unreadable) (.ref C_Unreadable) = some true
  em_Unreadable_SquareError : PySem.W.exmOne K (.ref C_Unreadable) (.ref C_SquareError) = some true
  kv_Unreadable : PySem.W.kitOne K (.ref C_Unreadable) (.type "ValueError") = some true

section
variable {P : Program} {w : World} {K : PySem.W.Frag} {mg : Str → Option Value} {base : Heap}
/-! #### _law_dip: 0 well, 1 many, 2 number, 3 turn -/
def sp__law_dip (T : Txt K mg) : Sp := fun vs H Q _ => ∃ (p : Addr) (x y many : Int), vs = [.ref p, .int many] ∧ (H p = some (.lst [.int x, .int y])) ∧ (0 ≤ x) ∧ (0 ≤ y) ∧ (y < 10 ^ 12) ∧ (0 < many) ∧ (Sz 8999 many) ∧ ∀ r x' y' H', 0 ≤ r → r < many → 0 ≤ x' → 0 ≤ y' → y' < 10 ^ 12 → SB p H H' → H' p = some (.lst [.int x', .int y']) → Q (.int r) H'
theorem len__law_dip {vs H Q E} (T : Txt K mg) (h : sp__law_dip T vs H Q E) : vs.length = 2 := by obtain ⟨p, x, y, many, rfl, _⟩ := h; rfl
theorem use__law_dip {T : Txt K mg} {H : Hp} {Q : VK} {E : XK} {p : Addr} {x y many : Int} (h1 : H p = some (.lst [.int x, .int y])) (x0 : 0 ≤ x) (y0 : 0 ≤ y) (y1 : y < 10 ^ 12) (m0 : 0 < many) (sm : Sz 8999 many) (k : ∀ r x' y' H', 0 ≤ r → r < many → 0 ≤ x' → 0 ≤ y' → y' < 10 ^ 12 → SB p H H' → H' p = some (.lst [.int x', .int y']) → Q (.int r) H') : sp__law_dip T [.ref p, .int many] H Q E := ⟨p, x, y, many, rfl, h1, x0, y0, y1, m0, sm, k⟩
local macro_rules | `(tactic| show "own") => `(tactic| (((with_reducible refine' use__law_dip ?s1 ?s2 ?s3 ?s4 ?s5 ?s6 ?nxt); (case s1 => (show "hp")); (case s2 => (assumption)); (case s3 => (assumption)); (case s4 => (assumption)); (case s5 => (omega)); (case s6 => (show "szf")); (case' nxt => skip)); intro _ _ _ _ _ _ _ _ _ _ _))

theorem ok__law_dip (T : Txt K mg) : FnOk P w K mg base CX0 1 T.f__law_dip T.fd__law_dip ["well", "many"] (sp__law_dip T) := by
  refine T.F__law_dip.ok sc__law_dip (fun vs H Q E h => ?_) (fun cdv A outer s H vs Q E hr h => ?_)
  · exact len__law_dip T h
  · refine ⟨_, (pss_cons (ps_if (pt_cmpR op_gtU (pe_ix (ix_seqK (K := K) rfl) (pv 0) pe_int (fun _ _ => rfl)) pe_int (nomark _)) (pss_cons (ps_set (i := 2) sc__law_dip.nd rfl (Or.inl rfl) (pe_ix (ix_seqK (K := K) rfl) (pv 0) pe_int (fun _ _ => rfl)))
    (pss_cons (ps_asg (pe_op op_fdivU (pv 2) (pv 1)) (pg_sub (pv 0) pe_int set_list))
    (pss_one (ps_ret (pe_op op_modU (pe_callTy c_int1 (by rfl) T.z_int (by decide +kernel) (pa_cons (pv 2) pa_nil)) (pv 1)))))) pss_nil)
    (pss_cons (ps_set (i := 3) sc__law_dip.nd rfl (Or.inl rfl) (pe_op op_modU (pe_callTy c_int1 (by rfl) T.z_int (by decide +kernel) (pa_cons (pe_op (op_addK (K := K) rfl) (pe_op op_mulU (pe_ix (ix_seqK (K := K) rfl) (pv 0) pe_int (fun _ _ => rfl)) pe_int) pe_int) pa_nil)) pe_int))
    (pss_cons (ps_asg (pv 3) (pg_sub (pv 0) pe_int set_list))
    (pss_one (ps_ret (pe_op op_modU (pe_op op_fdivU (pe_op op_modU (pe_callTy c_int1 (by rfl) T.z_int (by decide +kernel) (pa_cons (pe_op op_mulU (pv 3) (pv 3)) pa_nil)) pe_int) pe_int) (pv 1))))))), ?_⟩
    clear hr
    obtain ⟨p, x, y, many, rfl, h1, x0, y0, y1, m0, sm, k⟩ := h
    refine st_eq (σ' := [some _, some _, none, none]) rfl ?_
    have z1 : 0 ≤ x % many := Int.emod_nonneg _ (by omega)
    have z2 : x % many < many := Int.emod_lt_of_pos _ m0
    have z3 : 0 ≤ x / many := Int.ediv_nonneg x0 (by omega)
    show "go"
    refine ifs_2 (fun e => ?_) (fun e => ?_)
    · show "go"
      exact k _ _ _ _ z1 z2 z3 y0 y1 (by show "sb") (by show "hp")
    · obtain ⟨t, ht⟩ : ∃ t, t = (y * 69069 + 40503) % 4294967291 := ⟨_, rfl⟩
      have t0 : 0 ≤ t := by omega
      have t1 : t < 4294967291 := by omega
      show "go"
      rename_i H2 s2 h2
      have h3 : H2 p = some (.lst [.int x, .int ((y * 69069 + 40503) % 4294967291)]) := h2
      rw [← ht] at h3 ⊢
      exact k _ x t H2 (Int.emod_nonneg _ (by omega)) (Int.emod_lt_of_pos _ m0) x0 t0 (by omega) s2 h3
/-! #### _law_great: 0 well, 1 limit, 2 number, 3 turn -/
def sp__law_great (T : Txt K mg) : Sp := fun vs H Q _ => ∃ (p : Addr) (x y limit : Int), vs = [.ref p, .int limit] ∧ (H p = some (.lst [.int x, .int y])) ∧ (0 ≤ x) ∧ (0 ≤ y) ∧ (y < 10 ^ 12) ∧ (0 < limit) ∧ ∀ r x' y' H', 0 ≤ r → r < limit → 0 ≤ x' → 0 ≤ y' → y' < 10 ^ 12 → SB p H H' → H' p = some (.lst [.int x', .int y']) → Q (.int r) H'
theorem len__law_great {vs H Q E} (T : Txt K mg) (h : sp__law_great T vs H Q E) : vs.length = 2 := by obtain ⟨p, x, y, limit, rfl, _⟩ := h; rfl
theorem use__law_great {T : Txt K mg} {H : Hp} {Q : VK} {E : XK} {p : Addr} {x y limit : Int} (h1 : H p = some (.lst [.int x, .int y])) (x0 : 0 ≤ x) (y0 : 0 ≤ y) (y1 : y < 10 ^ 12) (m0 : 0 < limit) (k : ∀ r x' y' H', 0 ≤ r → r < limit → 0 ≤ x' → 0 ≤ y' → y' < 10 ^ 12 → SB p H H' → H' p = some (.lst [.int x', .int y']) → Q (.int r) H') : sp__law_great T [.ref p, .int limit] H Q E := ⟨p, x, y, limit, rfl, h1, x0, y0, y1, m0, k⟩
local macro_rules | `(tactic| show "own") => `(tactic| (((with_reducible refine' use__law_great ?s1 ?s2 ?s3 ?s4 ?s5 ?nxt); (case s1 => (show "hp")); (case s2 => (assumption)); (case s3 => (assumption)); (case s4 => (assumption)); (case s5 => (omega)); (case' nxt => skip)); intro _ _ _ _ _ _ _ _ _ _ _))

theorem ok__law_great (T : Txt K mg) : FnOk P w K mg base CX0 2 T.f__law_great T.fd__law_great ["well", "limit"] (sp__law_great T) := by
  have G__law_dip : FnOk P w K mg base CX0 1 T.f__law_dip T.fd__law_dip ["well", "many"] (sp__law_dip T) := ok__law_dip T
  refine T.F__law_great.ok sc__law_great (fun vs H Q E h => ?_) (fun cdv A outer s H vs Q E hr h => ?_)
  · exact len__law_great T h
  · refine ⟨_, (pss_cons (ps_set (i := 2) sc__law_great.nd rfl (Or.inl rfl) pe_int)
    (pss_cons (ps_for PassesOwn.never rfl (pi_range1 rfl T.z_range (pa_cons pe_int pa_nil)) (pg_name (i := 3) sc__law_great.nd rfl (Or.inl rfl)) (pss_one (ps_set (i := 2) sc__law_great.nd rfl (Or.inl rfl) (pe_op (op_addK (K := K) rfl) (pe_op op_mulU (pv 2) pe_int) (pe_call G__law_dip (hr.mono (by decide)) rfl T.g__law_dip T.F__law_dip.kp T.b__law_dip .nil pass0 (pa_cons (pv 0) (pa_cons pe_int pa_nil)))))))
    (pss_one (ps_ret (pe_op op_modU (pe_callTy c_int1 (by rfl) T.z_int (by decide +kernel) (pa_cons (pv 2) pa_nil)) (pv 1)))))), ?_⟩
    clear hr
    obtain ⟨p, x, y, limit, rfl, h1, x0, y0, y1, m0, k⟩ := h
    refine st_eq (σ' := [some _, some _, none, none]) rfl ?_
    show "go"
    refine f_rng1 (fun i σ' H' => ∃ num x' y' v, σ' = [some (.ref p), some (.int limit), some (.int num), v] ∧ 0 ≤ x' ∧ 0 ≤ y' ∧ y' < 10 ^ 12 ∧ SB p H H' ∧ H' p = some (.lst [.int x', .int y'])) (by omega) (by omega) ⟨_, _, _, _, rfl, x0, y0, y1, SB.refl _ _, h1⟩ ?_ ?_
    · rintro i σ' H' hi ⟨num, x', y', v, rfl, x0', y0', y1', s1, hp⟩
      show "go"
      rename_i r x2 y2 H2 r0 r1 x20 y20 y21 s2 hp2
      exact ⟨_, _, _, _, rfl, x20, y20, y21, s1.trans s2, hp2⟩
    · rintro σ' H' ⟨num, x', y', v, rfl, x0', y0', y1', s1, hp⟩
      show "go"
      exact k _ _ _ _ (Int.emod_nonneg _ (by omega)) (Int.emod_lt_of_pos _ m0) x0' y0' y1' s1 hp
/-! #### _law_odd_text: 0 well, 1 texts -/
def sp__law_odd_text (T : Txt K mg) : Sp := fun vs H Q _ => ∃ (p : Addr) (x y : Int), vs = [.ref p] ∧ (H p = some (.lst [.int x, .int y])) ∧ (0 ≤ x) ∧ (0 ≤ y) ∧ (y < 10 ^ 12) ∧ ∀ z x' y' H', TK 30 z → 0 ≤ x' → 0 ≤ y' → y' < 10 ^ 12 → SB p H H' → H' p = some (.lst [.int x', .int y']) → Q (.str z) H'
theorem len__law_odd_text {vs H Q E} (T : Txt K mg) (h : sp__law_odd_text T vs H Q E) : vs.length = 1 := by obtain ⟨p, x, y, rfl, _⟩ := h; rfl
theorem use__law_odd_text {T : Txt K mg} {H : Hp} {Q : VK} {E : XK} {p : Addr} {x y : Int} (h1 : H p = some (.lst [.int x, .int y])) (x0 : 0 ≤ x) (y0 : 0 ≤ y) (y1 : y < 10 ^ 12) (k : ∀ z x' y' H', TK 30 z → 0 ≤ x' → 0 ≤ y' → y' < 10 ^ 12 → SB p H H' → H' p = some (.lst [.int x', .int y']) → Q (.str z) H') : sp__law_odd_text T [.ref p] H Q E := ⟨p, x, y, rfl, h1, x0, y0, y1, k⟩
local macro_rules | `(tactic| show "own") => `(tactic| (((with_reducible refine' use__law_odd_text ?s1 ?s2 ?s3 ?s4 ?nxt); (case s1 => (show "hp")); (case s2 => (assumption)); (case s3 => (assumption)); (case s4 => (assumption)); (case' nxt => skip)); intro _ _ _ _ _ _ _ _ _ _))

theorem ok__law_odd_text (T : Txt K mg) : FnOk P w K mg base CX0 2 T.f__law_odd_text T.fd__law_odd_text ["well"] (sp__law_odd_text T) := by
  have G__law_dip : FnOk P w K mg base CX0 1 T.f__law_dip T.fd__law_dip ["well", "many"] (sp__law_dip T) := ok__law_dip T
  refine T.F__law_odd_text.ok sc__law_odd_text (fun vs H Q E h => ?_) (fun cdv A outer s H vs Q E hr h => ?_)
  · exact len__law_odd_text T h
  · refine ⟨_, (pss_cons (ps_set (i := 1) sc__law_odd_text.nd rfl (Or.inl rfl) (pe_lst (pa_cons pe_str (pa_cons pe_str (pa_cons pe_str (pa_cons pe_str (pa_cons pe_str (pa_cons pe_str (pa_cons pe_str (pa_cons pe_str (pa_cons pe_str (pa_cons pe_str (pa_cons pe_str (pa_cons pe_str pa_nil))))))))))))))
    (pss_one (ps_ret (pe_ix (ix_seqK (K := K) rfl) (pv 1) (pe_call G__law_dip (hr.mono (by decide)) rfl T.g__law_dip T.F__law_dip.kp T.b__law_dip .nil pass0 (pa_cons (pv 0) (pa_cons pe_int pa_nil))) (fun _ _ => rfl))))), ?_⟩
    clear hr
    obtain ⟨p, x, y, rfl, h1, x0, y0, y1, k⟩ := h
    refine st_eq (σ' := [some _, none]) rfl ?_
    show "go"
    refine' ix_all (P := fun v => ∃ z : Str, v = .str z ∧ TK 30 z) ?q3a ?q3b ?q3c ?q3d ?q3e
    case q3a => show "hp"
    case q3b => first | assumption | omega
    case q3c => simp only [List.length_cons, List.length_nil]; omega
    case q3d =>
      intro v hv
      simp only [List.mem_cons, List.not_mem_nil, or_false] at hv
      rcases hv with rfl | rfl | rfl | rfl | rfl | rfl | rfl | rfl | rfl | rfl | rfl | rfl <;> exact ⟨_, rfl, by decide +kernel, by decide +kernel⟩
    rintro v ⟨zz, rfl, hzz⟩
    show "go"
    refine' k _ _ _ _ hzz ?a ?b ?c ?d ?e; (case e => assumption); (case a => assumption); (case b => assumption); (case c => assumption); (case d => show "sb")
/-! #### _law_signed: 0 well, 1 digits, 2 length, 3 limit, 4 turn -/
def sp__law_signed (T : Txt K mg) : Sp := fun vs H Q _ => ∃ (p : Addr) (x y digits : Int), vs = [.ref p, .int digits] ∧ (H p = some (.lst [.int x, .int y])) ∧ (0 ≤ x) ∧ (0 ≤ y) ∧ (y < 10 ^ 12) ∧ (1 ≤ digits) ∧ (digits ≤ 60) ∧ ∀ r x' y' H', -(10 ^ digits.toNat) < r → r < 10 ^ digits.toNat → 0 ≤ x' → 0 ≤ y' → y' < 10 ^ 12 → SB p H H' → H' p = some (.lst [.int x', .int y']) → Q (.int r) H'
theorem len__law_signed {vs H Q E} (T : Txt K mg) (h : sp__law_signed T vs H Q E) : vs.length = 2 := by obtain ⟨p, x, y, digits, rfl, _⟩ := h; rfl
theorem use__law_signed {T : Txt K mg} {H : Hp} {Q : VK} {E : XK} {p : Addr} {x y digits : Int} (h1 : H p = some (.lst [.int x, .int y])) (x0 : 0 ≤ x) (y0 : 0 ≤ y) (y1 : y < 10 ^ 12) (m0 : 1 ≤ digits) (m1 : digits ≤ 60) (k : ∀ r x' y' H', -(10 ^ digits.toNat) < r → r < 10 ^ digits.toNat → 0 ≤ x' → 0 ≤ y' → y' < 10 ^ 12 → SB p H H' → H' p = some (.lst [.int x', .int y']) → Q (.int r) H') : sp__law_signed T [.ref p, .int digits] H Q E := ⟨p, x, y, digits, rfl, h1, x0, y0, y1, m0, m1, k⟩
local macro_rules | `(tactic| show "own") => `(tactic| (((with_reducible refine' use__law_signed ?s1 ?s2 ?s3 ?s4 ?s5 ?s6 ?nxt); (case s1 => (show "hp")); (case s2 => (assumption)); (case s3 => (assumption)); (case s4 => (assumption)); (case s5 => (omega)); (case s6 => (omega)); (case' nxt => skip)); intro _ _ _ _ _ _ _ _ _ _ _))

theorem ok__law_signed (T : Txt K mg) : FnOk P w K mg base CX0 3 T.f__law_signed T.fd__law_signed ["well", "digits"] (sp__law_signed T) := by
  have G__law_dip : FnOk P w K mg base CX0 1 T.f__law_dip T.fd__law_dip ["well", "many"] (sp__law_dip T) := ok__law_dip T
  have G__law_great : FnOk P w K mg base CX0 2 T.f__law_great T.fd__law_great ["well", "limit"] (sp__law_great T) := ok__law_great T
  refine T.F__law_signed.ok sc__law_signed (fun vs H Q E h => ?_) (fun cdv A outer s H vs Q E hr h => ?_)
  · exact len__law_signed T h
  · refine ⟨_, (pss_cons (ps_set (i := 2) sc__law_signed.nd rfl (Or.inl rfl) (pe_op (op_addK (K := K) rfl) pe_int (pe_call G__law_dip (hr.mono (by decide)) rfl T.g__law_dip T.F__law_dip.kp T.b__law_dip .nil pass0 (pa_cons (pv 0) (pa_cons (pv 1) pa_nil)))))
    (pss_cons (ps_if (pt_cmpR (op_eqK (K := K) rfl hr.units) (pe_call G__law_dip (hr.mono (by decide)) rfl T.g__law_dip T.F__law_dip.kp T.b__law_dip .nil pass0 (pa_cons (pv 0) (pa_cons pe_int pa_nil))) pe_int (nomark _)) (pss_one (ps_set (i := 2) sc__law_signed.nd rfl (Or.inl rfl) pe_int)) pss_nil)
    (pss_cons (ps_set (i := 3) sc__law_signed.nd rfl (Or.inl rfl) pe_int)
    (pss_cons (ps_for PassesOwn.never rfl (pi_range1 rfl T.z_range (pa_cons (pv 2) pa_nil)) (pg_name (i := 4) sc__law_signed.nd rfl (Or.inl rfl)) (pss_one (ps_set (i := 3) sc__law_signed.nd rfl (Or.inl rfl) (pe_op op_mulU (pv 3) pe_int))))
    (pss_one (ps_ret (pe_op op_mulU (pe_call G__law_great (hr.mono (by decide)) rfl T.g__law_great T.F__law_great.kp T.b__law_great .nil pass0 (pa_cons (pv 0) (pa_cons (pv 3) pa_nil))) (pe_op op_subU pe_int (pe_op op_mulU pe_int (pe_call G__law_dip (hr.mono (by decide)) rfl T.g__law_dip T.F__law_dip.kp T.b__law_dip .nil pass0 (pa_cons (pv 0) (pa_cons pe_int pa_nil)))))))))))), ?_⟩
    clear hr
    obtain ⟨p, x, y, digits, rfl, h1, x0, y0, y1, m0, m1, k⟩ := h
    refine st_eq (σ' := [some _, some _, none, none, none]) rfl ?_
    show "go"
    rename_i l lx ly Hl l0 l1 lx0 ly0 ly1 sl pl q qx qy Hq q0 q1 qx0 qy0 qy1 sq pq
    have fin : ∀ len : Int, 1 ≤ len → len ≤ digits → ∀ r b : Int, 0 ≤ r → r < 10 ^ len.toNat → 0 ≤ b → b < 2 → -(10 ^ digits.toNat) < r * (1 - 2 * b) ∧ r * (1 - 2 * b) < 10 ^ digits.toNat := by
      intro len n1 n2 r b r0 r1 b0 b1
      have h : (10 : Int) ^ len.toNat ≤ 10 ^ digits.toNat := by
        have := Nat.pow_le_pow_right (show 0 < 10 by decide) (show len.toNat ≤ digits.toNat by omega)
        exact_mod_cast this
      have : b = 0 ∨ b = 1 := by omega
      rcases this with rfl | rfl
      · rw [show r * (1 - 2 * 0) = r by omega]; omega
      · rw [show r * (1 - 2 * 1) = -r by omega]; omega
    refine ifs_2 (fun e => ?_) (fun e => ?_)
    · show "go"
      have n1 : 1 ≤ (1 : Int) := by omega
      have n2 : (1 : Int) ≤ digits := by omega
      refine f_rng1 (fun i σ' H' => H' = Hq ∧ ∃ v, σ' = [some (.ref p), some (.int digits), some (.int (1 : Int)), some (.int ((10 : Int) ^ i)), v]) (by omega) (by omega) ⟨rfl, _, by rw [Int.pow_zero]⟩ ?_ ?_
      · rintro i σ' H' hi ⟨rfl, v, rfl⟩
        show "go"
        exact ⟨rfl, _, by rw [Int.pow_succ]⟩
      · rintro σ' H' ⟨rfl, v, rfl⟩
        have hp : 0 < (10 : Int) ^ ((1 : Int)).toNat := Int.pow_pos (by decide)
        obtain ⟨M, hM⟩ : ∃ M, M = (10 : Int) ^ ((1 : Int)).toNat := ⟨_, rfl⟩
        have f := fin (1 : Int) n1 n2
        rw [← hM] at hp f ⊢
        clear fin
        show "go"
        rename_i r rx ry Hr r0 r1 rx0 ry0 ry1 sr pr b bx by_ Hb b0 b1 bx0 by0 by1 sb pb
        obtain ⟨f1, f2⟩ := f r b r0 r1 b0 b1
        exact k _ _ _ _ f1 f2 bx0 by0 by1 (by show "sb") pb
    · show "go"
      have n1 : 1 ≤ (1 + l) := by omega
      have n2 : (1 + l) ≤ digits := by omega
      refine f_rng1 (fun i σ' H' => H' = Hq ∧ ∃ v, σ' = [some (.ref p), some (.int digits), some (.int (1 + l)), some (.int ((10 : Int) ^ i)), v]) (by omega) (by omega) ⟨rfl, _, by rw [Int.pow_zero]⟩ ?_ ?_
      · rintro i σ' H' hi ⟨rfl, v, rfl⟩
        show "go"
        exact ⟨rfl, _, by rw [Int.pow_succ]⟩
      · rintro σ' H' ⟨rfl, v, rfl⟩
        have hp : 0 < (10 : Int) ^ ((1 + l)).toNat := Int.pow_pos (by decide)
        obtain ⟨M, hM⟩ : ∃ M, M = (10 : Int) ^ ((1 + l)).toNat := ⟨_, rfl⟩
        have f := fin (1 + l) n1 n2
        rw [← hM] at hp f ⊢
        clear fin
        show "go"
        rename_i r rx ry Hr r0 r1 rx0 ry0 ry1 sr pr b bx by_ Hb b0 b1 bx0 by0 by1 sb pb
        obtain ⟨f1, f2⟩ := f r b r0 r1 b0 b1
        exact k _ _ _ _ f1 f2 bx0 by0 by1 (by show "sb") pb
/-! #### _law_char: 0 well, 1 chars, 2 near -/
def sp__law_char (T : Txt K mg) : Sp := fun vs H Q _ => ∃ (p : Addr) (x y : Int), vs = [.ref p] ∧ (H p = some (.lst [.int x, .int y])) ∧ (0 ≤ x) ∧ (0 ≤ y) ∧ (y < 10 ^ 12) ∧ ∀ z x' y' H', TK 1 z → 0 ≤ x' → 0 ≤ y' → y' < 10 ^ 12 → SB p H H' → H' p = some (.lst [.int x', .int y']) → Q (.str z) H'
theorem len__law_char {vs H Q E} (T : Txt K mg) (h : sp__law_char T vs H Q E) : vs.length = 1 := by obtain ⟨p, x, y, rfl, _⟩ := h; rfl
theorem use__law_char {T : Txt K mg} {H : Hp} {Q : VK} {E : XK} {p : Addr} {x y : Int} (h1 : H p = some (.lst [.int x, .int y])) (x0 : 0 ≤ x) (y0 : 0 ≤ y) (y1 : y < 10 ^ 12) (k : ∀ z x' y' H', TK 1 z → 0 ≤ x' → 0 ≤ y' → y' < 10 ^ 12 → SB p H H' → H' p = some (.lst [.int x', .int y']) → Q (.str z) H') : sp__law_char T [.ref p] H Q E := ⟨p, x, y, rfl, h1, x0, y0, y1, k⟩
local macro_rules | `(tactic| show "own") => `(tactic| (((with_reducible refine' use__law_char ?s1 ?s2 ?s3 ?s4 ?nxt); (case s1 => (show "hp")); (case s2 => (assumption)); (case s3 => (assumption)); (case s4 => (assumption)); (case' nxt => skip)); intro _ _ _ _ _ _ _ _ _ _))

theorem ok__law_char (T : Txt K mg) : FnOk P w K mg base CX0 2 T.f__law_char T.fd__law_char ["well"] (sp__law_char T) := by
  have G__law_dip : FnOk P w K mg base CX0 1 T.f__law_dip T.fd__law_dip ["well", "many"] (sp__law_dip T) := ok__law_dip T
  refine T.F__law_char.ok sc__law_char (fun vs H Q E h => ?_) (fun cdv A outer s H vs Q E hr h => ?_)
  · exact len__law_char T h
  · refine ⟨_, (pss_cons (ps_set (i := 1) sc__law_char.nd rfl (Or.inl rfl) pe_str)
    (pss_cons (ps_set (i := 1) sc__law_char.nd rfl (Or.inl rfl) (pe_op (op_addK (K := K) rfl) (pv 1) pe_str))
    (pss_cons (ps_set (i := 2) sc__law_char.nd rfl (Or.inl rfl) pe_str)
    (pss_cons (ps_if (pt_cmpR op_gtU (pe_call G__law_dip (hr.mono (by decide)) rfl T.g__law_dip T.F__law_dip.kp T.b__law_dip .nil pass0 (pa_cons (pv 0) (pa_cons pe_int pa_nil))) pe_int (nomark _)) (pss_one (ps_ret (pe_ix (ix_seqK (K := K) rfl) (pv 2) (pe_call G__law_dip (hr.mono (by decide)) rfl T.g__law_dip T.F__law_dip.kp T.b__law_dip .nil pass0 (pa_cons (pv 0) (pa_cons (pe_callB c_lenS (by rfl) T.z_len (by decide +kernel) (pa_cons (pv 2) pa_nil)) pa_nil))) (fun _ _ => rfl)))) pss_nil)
    (pss_one (ps_ret (pe_ix (ix_seqK (K := K) rfl) (pv 1) (pe_call G__law_dip (hr.mono (by decide)) rfl T.g__law_dip T.F__law_dip.kp T.b__law_dip .nil pass0 (pa_cons (pv 0) (pa_cons (pe_callB c_lenS (by rfl) T.z_len (by decide +kernel) (pa_cons (pv 1) pa_nil)) pa_nil))) (fun _ _ => rfl)))))))), ?_⟩
    clear hr
    obtain ⟨p, x, y, rfl, h1, x0, y0, y1, k⟩ := h
    refine st_eq (σ' := [some _, none, none]) rfl ?_
    have nl : ("0123456789-+rc ,;()but" : Str).length = 22 := by decide +kernel
    have cl : ((" !\"#$&'()*+,-./0123456789:;<=>?@ABCDEFGHIJKLMNOPQRSTUVWXYZ[\\]^_`" : Str) ++ ("abcdefghijklmnopqrstuvwxyz{|}~" : Str) : Str).length = 94 := by decide +kernel
    have tc : TK 95 ((" !\"#$&'()*+,-./0123456789:;<=>?@ABCDEFGHIJKLMNOPQRSTUVWXYZ[\\]^_`" : Str) ++ ("abcdefghijklmnopqrstuvwxyz{|}~" : Str) : Str) := ⟨by decide +kernel, by decide +kernel⟩
    show "go"
    refine ifs_2 (fun e => ?_) (fun e => ?_)
    · show "go"
      rename_i z hz
      refine' k _ _ _ _ hz ?a ?b ?c ?d ?e; (case e => assumption); (case a => assumption); (case b => assumption); (case c => assumption); (case d => show "sb")
    · show "go"
      rename_i z hz
      refine' k _ _ _ _ hz ?a ?b ?c ?d ?e; (case e => assumption); (case a => assumption); (case b => assumption); (case c => assumption); (case d => show "sb")
/-! #### _law_spoilt: 0 well, 1 text, 2 at, 3 manner, 4 two -/
def sp__law_spoilt (T : Txt K mg) : Sp := fun vs H Q _ => ∃ (p : Addr) (x y : Int) (n : Nat) (t : Str), vs = [.ref p, .str t] ∧ (H p = some (.lst [.int x, .int y])) ∧ (0 ≤ x) ∧ (0 ≤ y) ∧ (y < 10 ^ 12) ∧ (TK n t) ∧ (n ≤ 30000) ∧ ∀ z x' y' H', TK (4 * n + 2) z → 0 ≤ x' → 0 ≤ y' → y' < 10 ^ 12 → SB p H H' → H' p = some (.lst [.int x', .int y']) → Q (.str z) H'
theorem len__law_spoilt {vs H Q E} (T : Txt K mg) (h : sp__law_spoilt T vs H Q E) : vs.length = 2 := by obtain ⟨p, x, y, n, t, rfl, _⟩ := h; rfl
theorem use__law_spoilt {T : Txt K mg} {H : Hp} {Q : VK} {E : XK} {p : Addr} {x y : Int} {n : Nat} {t : Str} (h1 : H p = some (.lst [.int x, .int y])) (x0 : 0 ≤ x) (y0 : 0 ≤ y) (y1 : y < 10 ^ 12) (ht : TK n t) (hn : n ≤ 30000) (k : ∀ z x' y' H', TK (4 * n + 2) z → 0 ≤ x' → 0 ≤ y' → y' < 10 ^ 12 → SB p H H' → H' p = some (.lst [.int x', .int y']) → Q (.str z) H') : sp__law_spoilt T [.ref p, .str t] H Q E := ⟨p, x, y, n, t, rfl, h1, x0, y0, y1, ht, hn, k⟩
local macro_rules | `(tactic| show "own") => `(tactic| (((with_reducible refine' use__law_spoilt ?s1 ?s2 ?s3 ?s4 ?s5 ?s6 ?nxt); (case s1 => (show "hp")); (case s2 => (assumption)); (case s3 => (assumption)); (case s4 => (assumption)); (case s5 => (show "tk")); (case s6 => (show "small")); (case' nxt => skip)); intro _ _ _ _ _ _ _ _ _ _))

theorem ok__law_spoilt (T : Txt K mg) : FnOk P w K mg base CX0 3 T.f__law_spoilt T.fd__law_spoilt ["well", "text"] (sp__law_spoilt T) := by
  have G__law_char : FnOk P w K mg base CX0 2 T.f__law_char T.fd__law_char ["well"] (sp__law_char T) := ok__law_char T
  have G__law_dip : FnOk P w K mg base CX0 1 T.f__law_dip T.fd__law_dip ["well", "many"] (sp__law_dip T) := ok__law_dip T
  refine T.F__law_spoilt.ok sc__law_spoilt (fun vs H Q E h => ?_) (fun cdv A outer s H vs Q E hr h => ?_)
  · exact len__law_spoilt T h
  · refine ⟨_, (pss_cons (ps_set (i := 2) sc__law_spoilt.nd rfl (Or.inl rfl) (pe_call G__law_dip (hr.mono (by decide)) rfl T.g__law_dip T.F__law_dip.kp T.b__law_dip .nil pass0 (pa_cons (pv 0) (pa_cons (pe_op (op_addK (K := K) rfl) (pe_callB c_lenS (by rfl) T.z_len (by decide +kernel) (pa_cons (pv 1) pa_nil)) pe_int) pa_nil))))
    (pss_cons (ps_set (i := 3) sc__law_spoilt.nd rfl (Or.inl rfl) (pe_call G__law_dip (hr.mono (by decide)) rfl T.g__law_dip T.F__law_dip.kp T.b__law_dip .nil pass0 (pa_cons (pv 0) (pa_cons pe_int pa_nil))))
    (pss_cons (ps_if (pt_cmpR (op_eqK (K := K) rfl hr.units) (pv 3) pe_int (nomark _)) (pss_one (ps_ret (pe_op (op_addK (K := K) rfl) (pe_slice (C8.sl_txt) (pv 1) po_none (po_some (pv 2))) (pe_slice (C8.sl_txt) (pv 1) (po_some (pe_op (op_addK (K := K) rfl) (pv 2) pe_int)) po_none)))) pss_nil)
    (pss_cons (ps_if (pt_cmpR (op_eqK (K := K) rfl hr.units) (pv 3) pe_int (nomark _)) (pss_one (ps_ret (pe_op (op_addK (K := K) rfl) (pe_op (op_addK (K := K) rfl) (pe_slice (C8.sl_txt) (pv 1) po_none (po_some (pv 2))) (pe_call G__law_char (hr.mono (by decide)) rfl T.g__law_char T.F__law_char.kp T.b__law_char .nil pass0 (pa_cons (pv 0) pa_nil))) (pe_slice (C8.sl_txt) (pv 1) (po_some (pv 2)) po_none)))) pss_nil)
    (pss_cons (ps_if (pt_cmpR (op_eqK (K := K) rfl hr.units) (pv 3) pe_int (nomark _)) (pss_one (ps_ret (pe_op (op_addK (K := K) rfl) (pe_op (op_addK (K := K) rfl) (pe_slice (C8.sl_txt) (pv 1) po_none (po_some (pv 2))) (pe_call G__law_char (hr.mono (by decide)) rfl T.g__law_char T.F__law_char.kp T.b__law_char .nil pass0 (pa_cons (pv 0) pa_nil))) (pe_slice (C8.sl_txt) (pv 1) (po_some (pe_op (op_addK (K := K) rfl) (pv 2) pe_int)) po_none)))) pss_nil)
    (pss_cons (ps_if (pt_cmpR (op_eqK (K := K) rfl hr.units) (pv 3) pe_int (nomark _)) (pss_cons (ps_set (i := 4) sc__law_spoilt.nd rfl (Or.inl rfl) (pe_slice (C8.sl_txt) (pv 1) (po_some (pv 2)) (po_some (pe_op (op_addK (K := K) rfl) (pv 2) pe_int))))
    (pss_one (ps_ret (pe_op (op_addK (K := K) rfl) (pe_op (op_addK (K := K) rfl) (pe_op (op_addK (K := K) rfl) (pe_slice (C8.sl_txt) (pv 1) po_none (po_some (pv 2))) (pe_slice (C8.sl_txt) (pv 4) (po_some pe_int) po_none)) (pe_slice (C8.sl_txt) (pv 4) po_none (po_some pe_int))) (pe_slice (C8.sl_txt) (pv 1) (po_some (pe_op (op_addK (K := K) rfl) (pv 2) pe_int)) po_none))))) pss_nil)
    (pss_one (ps_ret (pe_op (op_addK (K := K) rfl) (pe_op (op_addK (K := K) rfl) (pe_slice (C8.sl_txt) (pv 1) po_none (po_some (pv 2))) (pe_slice (C8.sl_txt) (pv 1) (po_some (pv 2)) (po_some (pe_op (op_addK (K := K) rfl) (pv 2) pe_int)))) (pe_slice (C8.sl_txt) (pv 1) (po_some (pv 2)) po_none)))))))))), ?_⟩
    clear hr
    obtain ⟨p, x, y, n, t, rfl, h1, x0, y0, y1, ht, hn, k⟩ := h
    refine st_eq (σ' := [some _, some _, none, none, none]) rfl ?_
    have tl := ht.len
    have sl : Sz 100 ((t.length : Int) + 1) := Sz.mono (Sz.mk (by omega) : Sz 60 _) (by decide)
    show "go"
    refine ifs_2 (fun e => ?_) (fun e => ?_)
    · show "go"
      refine' k _ _ _ _ (TK.mono (by show "tk") (by omega)) ?a ?b ?c ?d ?e; (case e => assumption); (case a => assumption); (case b => assumption); (case c => assumption); (case d => show "sb")
    · show "go"
      refine ifs_2 (fun e2 => ?_) (fun e2 => ?_)
      · show "go"
        refine' k _ _ _ _ (TK.mono (by show "tk") (by omega)) ?a ?b ?c ?d ?e; (case e => assumption); (case a => assumption); (case b => assumption); (case c => assumption); (case d => show "sb")
      · show "go"
        refine ifs_2 (fun e3 => ?_) (fun e3 => ?_)
        · show "go"
          refine' k _ _ _ _ (TK.mono (by show "tk") (by omega)) ?a ?b ?c ?d ?e; (case e => assumption); (case a => assumption); (case b => assumption); (case c => assumption); (case d => show "sb")
        · show "go"
          refine ifs_2 (fun e4 => ?_) (fun e4 => ?_)
          · show "go"
            refine' k _ _ _ _ (TK.mono (by show "tk") (by omega)) ?a ?b ?c ?d ?e; (case e => assumption); (case a => assumption); (case b => assumption); (case c => assumption); (case d => show "sb")
          · show "go"
            refine' k _ _ _ _ (TK.mono (by show "tk") (by omega)) ?a ?b ?c ?d ?e; (case e => assumption); (case a => assumption); (case b => assumption); (case c => assumption); (case d => show "sb")
/-! #### _law_case: 0 well, 1 many, 2 digits, 3 rows, 4 turn, 5 row, 6 good, 7 manner, 8 long, 9 great, 10 words, 11 text, 12 again, 13 one -/
def sp__law_case (T : Txt K mg) : Sp := fun vs H Q _ => ∃ (p : Addr) (x y : Int), vs = [.ref p] ∧ (H p = some (.lst [.int x, .int y])) ∧ (0 ≤ x) ∧ (0 ≤ y) ∧ (y < 10 ^ 12) ∧ ∀ T g z H', SB p H H' → TK 90000 g → TK 90000 z → H' T = some (.tup [.str g, .str z]) → Q (.ref T) H'
theorem len__law_case {vs H Q E} (T : Txt K mg) (h : sp__law_case T vs H Q E) : vs.length = 1 := by obtain ⟨p, x, y, rfl, _⟩ := h; rfl
theorem use__law_case {T : Txt K mg} {H : Hp} {Q : VK} {E : XK} {p : Addr} {x y : Int} (h1 : H p = some (.lst [.int x, .int y])) (x0 : 0 ≤ x) (y0 : 0 ≤ y) (y1 : y < 10 ^ 12) (k : ∀ T g z H', SB p H H' → TK 90000 g → TK 90000 z → H' T = some (.tup [.str g, .str z]) → Q (.ref T) H') : sp__law_case T [.ref p] H Q E := ⟨p, x, y, rfl, h1, x0, y0, y1, k⟩
local macro_rules | `(tactic| show "own") => `(tactic| (((with_reducible refine' use__law_case ?s1 ?s2 ?s3 ?s4 ?nxt); (case s1 => (show "hp")); (case s2 => (assumption)); (case s3 => (assumption)); (case s4 => (assumption)); (case' nxt => skip)); intro _ _ _ _ _ _ _ _))

theorem ok__law_case (T : Txt K mg) : FnOk P w K mg base CX0 4 T.f__law_case T.fd__law_case ["well"] (sp__law_case T) := by
  have G__law_dip : FnOk P w K mg base CX0 1 T.f__law_dip T.fd__law_dip ["well", "many"] (sp__law_dip T) := ok__law_dip T
  have G__law_great : FnOk P w K mg base CX0 2 T.f__law_great T.fd__law_great ["well", "limit"] (sp__law_great T) := ok__law_great T
  have G__law_odd_text : FnOk P w K mg base CX0 2 T.f__law_odd_text T.fd__law_odd_text ["well"] (sp__law_odd_text T) := ok__law_odd_text T
  have G__law_signed : FnOk P w K mg base CX0 3 T.f__law_signed T.fd__law_signed ["well", "digits"] (sp__law_signed T) := ok__law_signed T
  have G__law_spoilt : FnOk P w K mg base CX0 3 T.f__law_spoilt T.fd__law_spoilt ["well", "text"] (sp__law_spoilt T) := ok__law_spoilt T
  refine T.F__law_case.ok sc__law_case (fun vs H Q E h => ?_) (fun cdv A outer s H vs Q E hr h => ?_)
  · exact len__law_case T h
  · refine ⟨_, (pss_cons (ps_set (i := 1) sc__law_case.nd rfl (Or.inl rfl) (pe_op (op_addK (K := K) rfl) pe_int (pe_call G__law_dip (hr.mono (by decide)) rfl T.g__law_dip T.F__law_dip.kp T.b__law_dip .nil pass0 (pa_cons (pv 0) (pa_cons (pe_ix (ix_seqK (K := K) rfl) (pe_lst (pa_cons pe_int (pa_cons pe_int (pa_cons pe_int (pa_cons pe_int (pa_cons pe_int (pa_cons pe_int (pa_cons pe_int (pa_cons pe_int pa_nil))))))))) (pe_call G__law_dip (hr.mono (by decide)) rfl T.g__law_dip T.F__law_dip.kp T.b__law_dip .nil pass0 (pa_cons (pv 0) (pa_cons pe_int pa_nil))) (fun _ _ => rfl)) pa_nil)))))
    (pss_cons (ps_set (i := 2) sc__law_case.nd rfl (Or.inr rfl) pe_int)
    (pss_cons (ps_if (pt_cmpR op_gtU (pv 1) pe_int (nomark _)) (pss_one (ps_set (i := 2) sc__law_case.nd rfl (Or.inr rfl) pe_int)) pss_nil)
    (pss_cons (ps_set (i := 3) sc__law_case.nd rfl (Or.inl rfl) (pe_lst pa_nil))
    (pss_cons (ps_for PassesOwn.never rfl (pi_range1 rfl T.z_range (pa_cons (pv 1) pa_nil)) (pg_name (i := 4) sc__law_case.nd rfl (Or.inl rfl)) (pss_one (ps_expr (pe_bmK (K := K) rfl PySem.F.plainAttrs_list PySem.F.slot_list_append PySem.F.type_list_append mt_append (pv 3) (pa_cons (pe_lc (own := [("again", 12)]) rfl sc__law_case.nd (pi_range1 rfl T.z_range (pa_cons (pe_op (op_addK (K := K) rfl) pe_int (pe_call G__law_dip (hr.mono (by decide)) rfl T.g__law_dip T.F__law_dip.kp T.b__law_dip .nil pass0 (pa_cons (pv 0) (pa_cons pe_int pa_nil)))) pa_nil)) (blkOk_by (own := [("again", 12)]) (N := N__law_case) (sc := defScope s__law_case) (by first | decide +kernel | rfl)) (fun _ _ _ _ _ => (pg_name (i := 12) sc__law_case.nd rfl (by first | exact Or.inl rfl | exact Or.inr rfl))) (fun _ _ _ _ _ => pts_nil) (fun _ _ _ _ _ => (pe_callTy c_str1 (by rfl) T.z_str (by decide +kernel) (pa_cons (pe_call G__law_signed (hr.mono (by decide)) rfl T.g__law_signed T.F__law_signed.kp T.b__law_signed .nil pass0 (pa_cons (pv 0) (pa_cons (pv 2) pa_nil))) pa_nil)))) pa_nil)))))
    (pss_cons (ps_if (pt_cmpR (op_eqK (K := K) rfl hr.units) (pe_call G__law_dip (hr.mono (by decide)) rfl T.g__law_dip T.F__law_dip.kp T.b__law_dip .nil pass0 (pa_cons (pv 0) (pa_cons pe_int pa_nil))) pe_int (nomark _)) (pss_one (ps_expr (pe_bmK (K := K) rfl PySem.F.plainAttrs_list PySem.F.slot_list_insert PySem.F.type_list_insert mt_ins (pv 3) (pa_cons (pe_call G__law_dip (hr.mono (by decide)) rfl T.g__law_dip T.F__law_dip.kp T.b__law_dip .nil pass0 (pa_cons (pv 0) (pa_cons (pe_op (op_addK (K := K) rfl) (pv 1) pe_int) pa_nil))) (pa_cons (pe_callTy (c_listK (K := K) rfl) (by rfl) T.z_list (by decide +kernel) (pa_cons (pe_ix (ix_seqK (K := K) rfl) (pv 3) (pe_call G__law_dip (hr.mono (by decide)) rfl T.g__law_dip T.F__law_dip.kp T.b__law_dip .nil pass0 (pa_cons (pv 0) (pa_cons (pv 1) pa_nil))) (fun _ _ => rfl)) pa_nil)) pa_nil))))) pss_nil)
    (pss_cons (ps_set (i := 6) sc__law_case.nd rfl (Or.inl rfl) (pe_joinK (K := K) rfl pe_str (pe_lc (own := [("row", 5)]) rfl sc__law_case.nd (pi_listK (K := K) rfl (pv 3)) (blkOk_by (own := [("row", 5)]) (N := N__law_case) (sc := defScope s__law_case) (by first | decide +kernel | rfl)) (fun _ _ _ _ _ => (pg_name (i := 5) sc__law_case.nd rfl (by first | exact Or.inl rfl | exact Or.inr rfl))) (fun _ _ _ _ _ => pts_nil) (fun _ _ _ _ _ => (pe_joinK (K := K) rfl pe_str (pv 5))))))
    (pss_cons (ps_set (i := 7) sc__law_case.nd rfl (Or.inl rfl) (pe_call G__law_dip (hr.mono (by decide)) rfl T.g__law_dip T.F__law_dip.kp T.b__law_dip .nil pass0 (pa_cons (pv 0) (pa_cons pe_int pa_nil))))
    (pss_cons (ps_if (pt_cmpR (op_eqK (K := K) rfl hr.units) (pv 7) pe_int (nomark _)) (pss_one (ps_ret (pe_tup (pa_cons (pv 6) (pa_cons (pe_call G__law_odd_text (hr.mono (by decide)) rfl T.g__law_odd_text T.F__law_odd_text.kp T.b__law_odd_text .nil pass0 (pa_cons (pv 0) pa_nil)) pa_nil))))) pss_nil)
    (pss_cons (ps_if (pt_cmpR (op_eqK (K := K) rfl hr.units) (pv 7) pe_int (nomark _)) (pss_cons (ps_set (i := 5) sc__law_case.nd rfl (Or.inl rfl) (pe_ix (ix_seqK (K := K) rfl) (pv 3) (pe_call G__law_dip (hr.mono (by decide)) rfl T.g__law_dip T.F__law_dip.kp T.b__law_dip .nil pass0 (pa_cons (pv 0) (pa_cons (pv 1) pa_nil))) (fun _ _ => rfl)))
    (pss_cons (ps_set (i := 8) sc__law_case.nd rfl (Or.inl rfl) (pe_callTy c_str1 (by rfl) T.z_str (by decide +kernel) (pa_cons (pe_op (op_addK (K := K) rfl) (pe_op op_powU pe_int pe_int) (pe_call G__law_great (hr.mono (by decide)) rfl T.g__law_great T.F__law_great.kp T.b__law_great .nil pass0 (pa_cons (pv 0) (pa_cons (pe_op op_mulU pe_int (pe_op op_powU pe_int pe_int)) pa_nil)))) pa_nil)))
    (pss_cons (ps_set (i := 9) sc__law_case.nd rfl (Or.inl rfl) (pe_op op_mulS pe_str (pe_op (op_addK (K := K) rfl) pe_int (pe_call G__law_dip (hr.mono (by decide)) rfl T.g__law_dip T.F__law_dip.kp T.b__law_dip .nil pass0 (pa_cons (pv 0) (pa_cons pe_int pa_nil))))))
    (pss_cons (ps_set (i := 10) sc__law_case.nd rfl (Or.inl rfl) (pe_lst (pa_cons (pv 8) (pa_cons (pe_op (op_addK (K := K) rfl) pe_str (pv 8)) (pa_cons (pe_op (op_addK (K := K) rfl) pe_str (pe_ix (ix_seqK (K := K) rfl) (pv 5) pe_int (fun _ _ => rfl))) (pa_cons pe_str (pa_cons pe_str (pa_cons (pv 9) (pa_cons (pe_op (op_addK (K := K) rfl) pe_str (pv 9)) pa_nil)))))))))
    (pss_cons (ps_asg (pe_ix (ix_seqK (K := K) rfl) (pv 10) (pe_call G__law_dip (hr.mono (by decide)) rfl T.g__law_dip T.F__law_dip.kp T.b__law_dip .nil pass0 (pa_cons (pv 0) (pa_cons pe_int pa_nil))) (fun _ _ => rfl)) (pg_sub (pv 5) (pe_call G__law_dip (hr.mono (by decide)) rfl T.g__law_dip T.F__law_dip.kp T.b__law_dip .nil pass0 (pa_cons (pv 0) (pa_cons (pe_callB (c_lenK (K := K) rfl) (by rfl) T.z_len (by decide +kernel) (pa_cons (pv 5) pa_nil)) pa_nil))) set_list))
    (pss_one (ps_ret (pe_tup (pa_cons (pv 6) (pa_cons (pe_joinK (K := K) rfl pe_str (pe_lc (own := [("one", 13)]) rfl sc__law_case.nd (pi_listK (K := K) rfl (pv 3)) (blkOk_by (own := [("one", 13)]) (N := N__law_case) (sc := defScope s__law_case) (by first | decide +kernel | rfl)) (fun _ _ _ _ _ => (pg_name (i := 13) sc__law_case.nd rfl (by first | exact Or.inl rfl | exact Or.inr rfl))) (fun _ _ _ _ _ => pts_nil) (fun _ _ _ _ _ => (pe_joinK (K := K) rfl pe_str (pv 13))))) pa_nil)))))))))) pss_nil)
    (pss_cons (ps_set (i := 11) sc__law_case.nd rfl (Or.inl rfl) (pe_call G__law_spoilt (hr.mono (by decide)) rfl T.g__law_spoilt T.F__law_spoilt.kp T.b__law_spoilt .nil pass0 (pa_cons (pv 0) (pa_cons (pv 6) pa_nil))))
    (pss_cons (ps_if (pt_cmpR (op_eqK (K := K) rfl hr.units) (pv 7) pe_int (nomark _)) (pss_one (ps_set (i := 11) sc__law_case.nd rfl (Or.inl rfl) (pe_call G__law_spoilt (hr.mono (by decide)) rfl T.g__law_spoilt T.F__law_spoilt.kp T.b__law_spoilt .nil pass0 (pa_cons (pv 0) (pa_cons (pv 11) pa_nil))))) pss_nil)
    (pss_one (ps_ret (pe_tup (pa_cons (pv 6) (pa_cons (pv 11) pa_nil))))))))))))))))), ?_⟩
    clear hr
    obtain ⟨p, x, y, rfl, h1, x0, y0, y1, k⟩ := h
    refine st_eq (σ' := [some _, none, none, none, none, none, none, none, none, none, none, none, none, none]) rfl ?_
    show "go"
    rename_i P1 HP1 f1 s1 hP1 e ex ey He e0 e1 ex0 ey0 ey1 se pe
    have hP1e := se _ _ (ne_new f1 h1) hP1
    try simp only [List.cons_append, List.nil_append] at hP1e
    have s0e : Hld (SB p H He) := ⟨(SB.of s1).trans se⟩
    clear s1 se
    refine' ix_all (P := fun v => ∃ n : Int, v = .int n ∧ (n = 4 ∨ n = 40)) hP1e (by omega) (by simp only [List.length_cons, List.length_nil]; omega) (fun v hv => ?_) ?_
    · simp only [List.mem_cons, List.not_mem_nil, or_false] at hv
      rcases hv with rfl | rfl | rfl | rfl | rfl | rfl | rfl | rfl <;> exact ⟨_, rfl, by decide⟩
    rintro v ⟨nn, rfl, hnn⟩
    have hn4 : 4 ≤ nn ∧ nn ≤ 40 := by omega
    clear hP1e hP1 f1
    show "go"
    rename_i d xd yd Hd d0 d1 xd0 yd0 yd1 sd0 pd
    have sd : Hld (SB p H Hd) := ⟨s0e.out.trans sd0⟩
    clear s0e sd0 pe
    refine ifs_2 (fun e4 => ?_) (fun e4 => ?_)
    · have hM : d ≤ 39 := by omega
      show "go"
      rename_i R HR fR sR hR
      have Rp : R ≠ p := ne_new fR pd
      have fR0 : Fr H R := fr_bk sd.out fR pd
      have sR0 : Hld (SB p H HR) := ⟨sd.out.trans (SB.of sR)⟩
      have pR := sR _ _ pd
      clear sd pd fR sR
      refine f_rng1 (fun i σ' H' => ∃ qs x y v4 v5 v6 v7 v8 v9 v10 v11 v12 v13, σ' = [some (.ref p), some (.int (1 + d)), some (.int 2), some (.ref R), v4, v5, v6, v7, v8, v9, v10, v11, v12, v13] ∧ H' R = some (.lst (qs.map V.ref)) ∧ qs.length = i ∧ TxA H' 3 qs ∧ (∀ q ∈ qs, q ≠ R ∧ q ≠ p ∧ Fr H q) ∧ Wel p H' x y ∧ Hld (SB p H H')) (by omega) (by omega) ⟨[], _, _, _, _, _, _, _, _, _, _, _, _, rfl, hR, rfl, (fun q m => (List.not_mem_nil m).elim), (fun q m => (List.not_mem_nil m).elim), ⟨pR, xd0, yd0, yd1⟩, sR0⟩ ?_ ?_
      · rintro i σ' H' hi ⟨qs, x2, y2, v4, v5, v6, v7, v8, v9, v10, v11, v12, v13, rfl, hq, ql, txs, nq, ⟨hp2, x20, y20, y21⟩, sb⟩
        clear hR pR sR0
        show "go"
        rename_i c cx cy Hc c0 c1 cx0 cy0 cy1 sc pc
        refine lc_drawtx 3 (by omega) (by omega) ⟨pc, cx0, cy0, cy1⟩ ?_ ?_
        · rintro j x3 y3 H3 hj s3 ⟨hp3, x30, y30, y31⟩ Z kZ
          show "go"
          rename_i r x4 y4 H4 r0 r1 x40 y40 y41 s4 hp4
          rw [show Int.toNat 2 = 2 from rfl] at r0 r1
          have rn : r.natAbs < 10 ^ 2 := by omega
          have rz : Sz 300 r := Sz.mk (by omega)
          show "go"
          exact kZ _ _ _ _ (TK.txn (n := 2) (by decide) rn) s4 ⟨hp4, x40, y40, y41⟩
        · intro D ws x3 y3 H3 fD wl wb s3 ⟨hp3, x30, y30, y31⟩ hD
          have hRc := sc _ _ Rp hq
          have hR3 := s3 _ _ Rp hRc
          have DR : D ≠ R := ne_new fD hRc
          have Dp : D ≠ p := ne_new fD pc
          have fD0 : Fr H D := fr_bk (sb.out.trans sc) fD pc
          show "go"
          rename_i H4 s4 h4
          refine ⟨qs ++ [D], x3, y3, _, _, _, _, _, _, _, _, _, _, rfl, by rw [h4, List.map_append]; rfl, by rw [List.length_append, ql]; rfl, ?_, fun q m => ?_, ⟨s4 _ _ (Ne.symm Rp) hp3, x30, y30, y31⟩, ⟨SB.skip ((sb.out.trans sc).trans s3) fR0 s4⟩⟩
          · exact (txs.imp (Nat.le_refl _) (fun q m o h => s4 _ _ (nq q m).1 (s3 _ _ (nq q m).2.1 (sc _ _ (nq q m).2.1 h)))).snoc (s4 _ _ DR hD) (by omega) (by omega) wb
          · rcases List.mem_append.mp m with m | m
            · exact nq q m
            · rw [List.mem_singleton.mp m]; exact ⟨DR, Dp, fD0⟩
      · rintro σ' H1 ⟨qs, x2, y2, v4, v5, v6, v7, v8, v9, v10, v11, v12, v13, rfl, hq, ql, txs, nq, ⟨hp2, x20, y20, y21⟩, sb⟩
        clear hR pR sR0
        show "go"
        rename_i u ux uy Hu u0 u1 ux0 uy0 uy1 su pu
        have hRu := su _ _ Rp hq
        have txu : TxA Hu 3 qs := txs.imp (Nat.le_refl _) fun q m o h => su _ _ (nq q m).2.1 h
        have sbu : Hld (SB p H Hu) := ⟨sb.out.trans su⟩
        clear su sb txs hq hp2
        refine ifs_2 (fun eu => ?_) (fun eu => ?_)
        · show "go"
          rename_i a ax ay Ha a0 a1 ax0 ay0 ay1 sa pa b bx by_ Hb b0 b1 bx0 by0 by1 sb2 pb
          have sab : Hld (SB p Hu Hb) := ⟨sa.trans sb2⟩
          have hRb := sab.out _ _ Rp hRu
          refine' ix_all (P := fun v => ∃ q ∈ qs, v = .ref q) hRb (by omega) (by rw [List.length_map]; omega) (fun v hv => ?_) ?_
          · obtain ⟨q, m, rfl⟩ := List.mem_map.mp hv
            exact ⟨q, m, rfl⟩
          rintro v ⟨q, mq, rfl⟩
          have txb : TxA Hb 3 qs := txu.imp (Nat.le_refl _) fun q m o h => sab.out _ _ (nq q m).2.1 h
          obtain ⟨ws, w1, w2, w3, w4⟩ := txb q mq
          show "go"
          rename_i L HL fL sL hL
          have hRL := sL _ _ hRb
          refine in_insert hRL (by rw [List.length_map]; omega) (by omega) (by omega) ?_
          intro H6 s6 h6
          have LR : L ≠ R := ne_new fL hRb
          have Lp : L ≠ p := ne_new fL pb
          have fL0 : Fr H L := fr_bk (sbu.out.trans sab.out) fL pb
          obtain ⟨qs3, Hz, eH, hR3, ql3, tx3, nq3, hp3, sb3⟩ : ∃ qs3 Hz, Hz = H6 ∧ Hz R = some (.lst (qs3.map V.ref)) ∧ (1 + d ≤ qs3.length ∧ qs3.length ≤ 40 + 1) ∧ TxA Hz 3 qs3 ∧ (∀ q ∈ qs3, q ≠ R ∧ q ≠ p ∧ Fr H q) ∧ Hz p = some (.lst [.int bx, .int by_]) ∧ Hld (SB p H Hz) := by
            refine ⟨qs.take a.toNat ++ [L] ++ qs.drop a.toNat, H6, rfl, by rw [h6]; simp only [List.map_append, List.map_take, List.map_drop, List.map_cons, List.map_nil], by simp only [List.length_append, List.length_take, List.length_drop, List.length_cons, List.length_nil]; omega, ?_, fun c m => ?_, s6 _ _ (Ne.symm Rp) (sL _ _ pb), ⟨SB.skip ((sbu.out.trans sab.out).trans (SB.of sL)) fR0 s6⟩⟩
            · exact (txb.imp (Nat.le_refl _) fun q m o h => s6 _ _ (nq q m).1 (sL _ _ h)).put (s6 _ _ LR hL) w2 w3 w4
            · rcases List.mem_append.mp m with m | m
              · rcases List.mem_append.mp m with m | m
                · exact nq c (List.mem_of_mem_take m)
                · rw [List.mem_singleton.mp m]; exact ⟨LR, Lp, fL0⟩
              · exact nq c (List.mem_of_mem_drop m)
          subst eH
          clear h6 s6 hRL sL fL hL txb w1 hRb sab sa sb2 pa pb txu hRu sbu pu
          have xz0 := bx0
          have yz0 := by0
          have yz1 := by1
          show "go"
          refine lc_pred (fun v => ∃ z, v = .str z ∧ TK (5 * (3 + 1)) z) (by show "hq") (by rw [List.length_map]; omega) ?_ ?_
          · intro v hv Hj sj Z kZ
            obtain ⟨q, m, rfl⟩ := List.mem_map.mp hv
            obtain ⟨ws, w1, w2, w3, w4⟩ := tx3 q m
            have w5 := sj _ _ w1
            show "go"
            refine o_joink w5 (TK.of1 (by decide +kernel) (by decide +kernel)) (fun v hv => by obtain ⟨w, mw, rfl⟩ := List.mem_map.mp hv; exact ⟨w, rfl, w4 w mw⟩) (by rw [List.length_map]; exact w3) (by decide) ?_
            intro z tz
            show "go"
            exact kZ _ _ ⟨z, rfl, tz⟩ (Same.refl _)
          intro D4 acc4 H4 f4 s4 al4 pa4 hD4
          show "go"
          refine o_joink (m := 41) hD4 (TK.of2 (by decide +kernel) (by decide +kernel)) pa4 (by rw [al4, List.length_map]; omega) (by decide) ?_
          intro z4 tz4
          have tg : TK 5600 z4 := tz4.mono (by decide)
          have hR4 := s4 _ _ hR3
          have hp4 := s4 _ _ hp3
          have tx4 : TxA H4 3 qs3 := tx3.imp (Nat.le_refl _) fun q m o h => s4 _ _ h
          have sb4 : Hld (SB p H H4) := ⟨sb3.out.trans (SB.of s4)⟩
          clear tz4 pa4 hD4 s4 f4 hR3 hp3 tx3 sb3
          show "go"
          rename_i m mx my Hm m0 m1 mx0 my0 my1 sm pm
          refine ifs_2 (fun e1 => ?_) (fun e1 => ?_)
          · show "go"
            rename_i z zx zy Hz hz zx0 zy0 zy1 sz pz T HT fT sT hT
            exact k T _ _ HT (((sb4.out.trans sm).trans sz).trans (SB.of sT)) (tg.mono (by decide)) (hz.mono (by decide)) hT
          · show "go"
            refine ifs_2 (fun e2 => ?_) (fun e2 => ?_)
            · have hRm := sm _ _ Rp hR4
              have txm : TxA Hm 3 qs3 := tx4.imp (Nat.le_refl _) fun q m o h => sm _ _ (nq3 q m).2.1 h
              have sbm : Hld (SB p H Hm) := ⟨sb4.out.trans sm⟩
              clear hR4 tx4 sb4 hp4 sm
              show "go"
              rename_i a ax ay Ha a0 a1 ax0 ay0 ay1 sa pa
              refine' ix_all (P := fun v => ∃ q ∈ qs3, v = .ref q) (by show "hp") (by omega) (by rw [List.length_map]; omega) (fun v hv => ?_) ?_
              · obtain ⟨q, m, rfl⟩ := List.mem_map.mp hv
                exact ⟨q, m, rfl⟩
              rintro v ⟨q, mq, rfl⟩
              have txa : TxA Ha 3 qs3 := txm.imp (Nat.le_refl _) fun q m o h => sa _ _ (nq3 q m).2.1 h
              have hRa := sa _ _ Rp hRm
              have sba : Hld (SB p H Ha) := ⟨sbm.out.trans sa⟩
              clear txm hRm sbm sa pm
              obtain ⟨ws, w1, w2, w3, w4⟩ := txa q mq
              obtain ⟨w, wr, rfl⟩ : ∃ w wr, ws = w :: wr := by
                cases ws with
                | nil => cases w2
                | cons w wr => exact ⟨w, wr, rfl⟩
              have qp := (nq3 q mq).2.1
              have qR := (nq3 q mq).1
              have tw := w4 w List.mem_cons_self
              simp only [List.map_cons] at w1
              have wl : wr.length + 1 ≤ 5 := w3
              show "go"
              rename_i r rx ry Hr r0 r1 rx0 ry0 ry1 sr pr g gx gy Hg g0 g1 gx0 gy0 gy1 sg pg zg tzg
              have wq := sg _ _ qp (sr _ _ qp w1)
              refine ix_at (k := 0) wq rfl rfl ?_
              show "go"
              clear wq
              rename_i W HW fW sW hW i ix iy Hi i0 i1 ix0 iy0 iy1 si pi
              have hWi := si _ _ (ne_new fW pg) hW
              try simp only [List.cons_append, List.nil_append] at hWi
              have tl : TK 62 (tx (10 ^ 60 + r)) := TK.txn (n := 61) (by decide) (by omega)
              simp only [Int.reducePow] at tl
              refine' ix_all (P := fun v => ∃ z, v = .str z ∧ TK 362 z) hWi (by omega) (by simp only [List.length_cons, List.length_nil]; omega) (fun v hv => ?_) ?_
              · simp only [List.mem_cons, List.not_mem_nil, or_false] at hv
                rcases hv with rfl | rfl | rfl | rfl | rfl | rfl | rfl
                · exact ⟨_, rfl, tl.mono (by decide)⟩
                · exact ⟨_, rfl, ((TK.of1 (by decide +kernel) (by decide +kernel)).app tl).mono (by decide)⟩
                · exact ⟨_, rfl, ((TK.of1 (by decide +kernel) (by decide +kernel)).app tw).mono (by decide)⟩
                · exact ⟨_, rfl, by decide +kernel, by decide +kernel⟩
                · exact ⟨_, rfl, by decide +kernel, by decide +kernel⟩
                · exact ⟨_, rfl, tzg.mono (by decide)⟩
                · exact ⟨_, rfl, ((TK.of1 (by decide +kernel) (by decide +kernel)).app tzg).mono (by decide)⟩
              rintro v ⟨zv, rfl, tzv⟩
              show "go"
              rename_i j jx jy Hj2 j0 j1 jx0 jy0 jy1 sj pj
              have sAll : Hld (SB p Ha Hj2) := ⟨((((sr.trans sg).trans (SB.of sW)).trans si).trans sj)⟩
              clear sr sg sW si hWi hW
              have w5 := sAll.out _ _ qp w1
              refine s_seti w5 j0 (by simp only [List.length_cons, List.length_map]; omega) ?_
              intro H8 s8 h8
              have tx8 : TxA H8 362 qs3 := TxA.set (ws := w :: wr) (txa.imp (by decide) fun q m o h => sAll.out _ _ (nq3 q m).2.1 h) s8 h8 w2 w3 (fun u m => (w4 u m).mono (by decide)) tzv
              have hR8 := s8 _ _ (Ne.symm qR) (sAll.out _ _ Rp hRa)
              have sb8 : Hld (SB p H H8) := ⟨SB.skip (sba.out.trans sAll.out) (nq3 q mq).2.2 s8⟩
              clear txa hRa sba sAll w5 w1 s8 h8
              show "go"
              refine lc_pred (fun v => ∃ z, v = .str z ∧ TK (5 * (362 + 1)) z) (by show "hq") (by rw [List.length_map]; omega) ?_ ?_
              · intro v hv Hj sj Z kZ
                obtain ⟨q, m, rfl⟩ := List.mem_map.mp hv
                obtain ⟨ws, w1, w2, w3, w4⟩ := tx8 q m
                have w5 := sj _ _ w1
                show "go"
                refine o_joink w5 (TK.of1 (by decide +kernel) (by decide +kernel)) (fun v hv => by obtain ⟨w, mw, rfl⟩ := List.mem_map.mp hv; exact ⟨w, rfl, w4 w mw⟩) (by rw [List.length_map]; exact w3) (by decide) ?_
                intro z tz
                show "go"
                exact kZ _ _ ⟨z, rfl, tz⟩ (Same.refl _)
              intro D9 acc9 H9 f9 s9 al9 pa9 hD9
              show "go"
              refine o_joink (m := 41) hD9 (TK.of2 (by decide +kernel) (by decide +kernel)) pa9 (by rw [al9, List.length_map]; omega) (by decide) ?_
              intro z9 tz9
              show "go"
              rename_i T HT fT sT hT
              exact k T _ _ HT ((sb8.out.trans (SB.of s9)).trans (SB.of sT)) (tg.mono (by decide)) (tz9.mono (by decide)) hT
            · show "go"
              rename_i z zx zy Hz hz zx0 zy0 zy1 sz pz
              refine ifs_2 (fun e4 => ?_) (fun e4 => ?_)
              · show "go"
                rename_i z2 xz2 yz2 Hz2 hz2 xz20 yz20 yz21 sz2 pz2 T HT fT sT hT
                exact k T _ _ HT ((((sb4.out.trans sm).trans sz).trans sz2).trans (SB.of sT)) (tg.mono (by decide)) (hz2.mono (by decide)) hT
              · show "go"
                rename_i T HT fT sT hT
                exact k T _ _ HT (((sb4.out.trans sm).trans sz).trans (SB.of sT)) (tg.mono (by decide)) (hz.mono (by decide)) hT
        · obtain ⟨qs3, Hz, eH, hR3, ql3, tx3, nq3, hp3, sb3⟩ : ∃ qs3 Hz, Hz = Hu ∧ Hz R = some (.lst (qs3.map V.ref)) ∧ (1 + d ≤ qs3.length ∧ qs3.length ≤ 40 + 1) ∧ TxA Hz 3 qs3 ∧ (∀ q ∈ qs3, q ≠ R ∧ q ≠ p ∧ Fr H q) ∧ Hz p = some (.lst [.int ux, .int uy]) ∧ Hld (SB p H Hz) :=
            ⟨qs, Hu, rfl, hRu, by omega, txu, nq, pu, sbu⟩
          subst eH
          clear txu hRu sbu pu
          have xz0 := ux0
          have yz0 := uy0
          have yz1 := uy1
          show "go"
          refine lc_pred (fun v => ∃ z, v = .str z ∧ TK (5 * (3 + 1)) z) (by show "hq") (by rw [List.length_map]; omega) ?_ ?_
          · intro v hv Hj sj Z kZ
            obtain ⟨q, m, rfl⟩ := List.mem_map.mp hv
            obtain ⟨ws, w1, w2, w3, w4⟩ := tx3 q m
            have w5 := sj _ _ w1
            show "go"
            refine o_joink w5 (TK.of1 (by decide +kernel) (by decide +kernel)) (fun v hv => by obtain ⟨w, mw, rfl⟩ := List.mem_map.mp hv; exact ⟨w, rfl, w4 w mw⟩) (by rw [List.length_map]; exact w3) (by decide) ?_
            intro z tz
            show "go"
            exact kZ _ _ ⟨z, rfl, tz⟩ (Same.refl _)
          intro D4 acc4 H4 f4 s4 al4 pa4 hD4
          show "go"
          refine o_joink (m := 41) hD4 (TK.of2 (by decide +kernel) (by decide +kernel)) pa4 (by rw [al4, List.length_map]; omega) (by decide) ?_
          intro z4 tz4
          have tg : TK 5600 z4 := tz4.mono (by decide)
          have hR4 := s4 _ _ hR3
          have hp4 := s4 _ _ hp3
          have tx4 : TxA H4 3 qs3 := tx3.imp (Nat.le_refl _) fun q m o h => s4 _ _ h
          have sb4 : Hld (SB p H H4) := ⟨sb3.out.trans (SB.of s4)⟩
          clear tz4 pa4 hD4 s4 f4 hR3 hp3 tx3 sb3
          show "go"
          rename_i m mx my Hm m0 m1 mx0 my0 my1 sm pm
          refine ifs_2 (fun e1 => ?_) (fun e1 => ?_)
          · show "go"
            rename_i z zx zy Hz hz zx0 zy0 zy1 sz pz T HT fT sT hT
            exact k T _ _ HT (((sb4.out.trans sm).trans sz).trans (SB.of sT)) (tg.mono (by decide)) (hz.mono (by decide)) hT
          · show "go"
            refine ifs_2 (fun e2 => ?_) (fun e2 => ?_)
            · have hRm := sm _ _ Rp hR4
              have txm : TxA Hm 3 qs3 := tx4.imp (Nat.le_refl _) fun q m o h => sm _ _ (nq3 q m).2.1 h
              have sbm : Hld (SB p H Hm) := ⟨sb4.out.trans sm⟩
              clear hR4 tx4 sb4 hp4 sm
              show "go"
              rename_i a ax ay Ha a0 a1 ax0 ay0 ay1 sa pa
              refine' ix_all (P := fun v => ∃ q ∈ qs3, v = .ref q) (by show "hp") (by omega) (by rw [List.length_map]; omega) (fun v hv => ?_) ?_
              · obtain ⟨q, m, rfl⟩ := List.mem_map.mp hv
                exact ⟨q, m, rfl⟩
              rintro v ⟨q, mq, rfl⟩
              have txa : TxA Ha 3 qs3 := txm.imp (Nat.le_refl _) fun q m o h => sa _ _ (nq3 q m).2.1 h
              have hRa := sa _ _ Rp hRm
              have sba : Hld (SB p H Ha) := ⟨sbm.out.trans sa⟩
              clear txm hRm sbm sa pm
              obtain ⟨ws, w1, w2, w3, w4⟩ := txa q mq
              obtain ⟨w, wr, rfl⟩ : ∃ w wr, ws = w :: wr := by
                cases ws with
                | nil => cases w2
                | cons w wr => exact ⟨w, wr, rfl⟩
              have qp := (nq3 q mq).2.1
              have qR := (nq3 q mq).1
              have tw := w4 w List.mem_cons_self
              simp only [List.map_cons] at w1
              have wl : wr.length + 1 ≤ 5 := w3
              show "go"
              rename_i r rx ry Hr r0 r1 rx0 ry0 ry1 sr pr g gx gy Hg g0 g1 gx0 gy0 gy1 sg pg zg tzg
              have wq := sg _ _ qp (sr _ _ qp w1)
              refine ix_at (k := 0) wq rfl rfl ?_
              show "go"
              clear wq
              rename_i W HW fW sW hW i ix iy Hi i0 i1 ix0 iy0 iy1 si pi
              have hWi := si _ _ (ne_new fW pg) hW
              try simp only [List.cons_append, List.nil_append] at hWi
              have tl : TK 62 (tx (10 ^ 60 + r)) := TK.txn (n := 61) (by decide) (by omega)
              simp only [Int.reducePow] at tl
              refine' ix_all (P := fun v => ∃ z, v = .str z ∧ TK 362 z) hWi (by omega) (by simp only [List.length_cons, List.length_nil]; omega) (fun v hv => ?_) ?_
              · simp only [List.mem_cons, List.not_mem_nil, or_false] at hv
                rcases hv with rfl | rfl | rfl | rfl | rfl | rfl | rfl
                · exact ⟨_, rfl, tl.mono (by decide)⟩
                · exact ⟨_, rfl, ((TK.of1 (by decide +kernel) (by decide +kernel)).app tl).mono (by decide)⟩
                · exact ⟨_, rfl, ((TK.of1 (by decide +kernel) (by decide +kernel)).app tw).mono (by decide)⟩
                · exact ⟨_, rfl, by decide +kernel, by decide +kernel⟩
                · exact ⟨_, rfl, by decide +kernel, by decide +kernel⟩
                · exact ⟨_, rfl, tzg.mono (by decide)⟩
                · exact ⟨_, rfl, ((TK.of1 (by decide +kernel) (by decide +kernel)).app tzg).mono (by decide)⟩
              rintro v ⟨zv, rfl, tzv⟩
              show "go"
              rename_i j jx jy Hj2 j0 j1 jx0 jy0 jy1 sj pj
              have sAll : Hld (SB p Ha Hj2) := ⟨((((sr.trans sg).trans (SB.of sW)).trans si).trans sj)⟩
              clear sr sg sW si hWi hW
              have w5 := sAll.out _ _ qp w1
              refine s_seti w5 j0 (by simp only [List.length_cons, List.length_map]; omega) ?_
              intro H8 s8 h8
              have tx8 : TxA H8 362 qs3 := TxA.set (ws := w :: wr) (txa.imp (by decide) fun q m o h => sAll.out _ _ (nq3 q m).2.1 h) s8 h8 w2 w3 (fun u m => (w4 u m).mono (by decide)) tzv
              have hR8 := s8 _ _ (Ne.symm qR) (sAll.out _ _ Rp hRa)
              have sb8 : Hld (SB p H H8) := ⟨SB.skip (sba.out.trans sAll.out) (nq3 q mq).2.2 s8⟩
              clear txa hRa sba sAll w5 w1 s8 h8
              show "go"
              refine lc_pred (fun v => ∃ z, v = .str z ∧ TK (5 * (362 + 1)) z) (by show "hq") (by rw [List.length_map]; omega) ?_ ?_
              · intro v hv Hj sj Z kZ
                obtain ⟨q, m, rfl⟩ := List.mem_map.mp hv
                obtain ⟨ws, w1, w2, w3, w4⟩ := tx8 q m
                have w5 := sj _ _ w1
                show "go"
                refine o_joink w5 (TK.of1 (by decide +kernel) (by decide +kernel)) (fun v hv => by obtain ⟨w, mw, rfl⟩ := List.mem_map.mp hv; exact ⟨w, rfl, w4 w mw⟩) (by rw [List.length_map]; exact w3) (by decide) ?_
                intro z tz
                show "go"
                exact kZ _ _ ⟨z, rfl, tz⟩ (Same.refl _)
              intro D9 acc9 H9 f9 s9 al9 pa9 hD9
              show "go"
              refine o_joink (m := 41) hD9 (TK.of2 (by decide +kernel) (by decide +kernel)) pa9 (by rw [al9, List.length_map]; omega) (by decide) ?_
              intro z9 tz9
              show "go"
              rename_i T HT fT sT hT
              exact k T _ _ HT ((sb8.out.trans (SB.of s9)).trans (SB.of sT)) (tg.mono (by decide)) (tz9.mono (by decide)) hT
            · show "go"
              rename_i z zx zy Hz hz zx0 zy0 zy1 sz pz
              refine ifs_2 (fun e4 => ?_) (fun e4 => ?_)
              · show "go"
                rename_i z2 xz2 yz2 Hz2 hz2 xz20 yz20 yz21 sz2 pz2 T HT fT sT hT
                exact k T _ _ HT ((((sb4.out.trans sm).trans sz).trans sz2).trans (SB.of sT)) (tg.mono (by decide)) (hz2.mono (by decide)) hT
              · show "go"
                rename_i T HT fT sT hT
                exact k T _ _ HT (((sb4.out.trans sm).trans sz).trans (SB.of sT)) (tg.mono (by decide)) (hz.mono (by decide)) hT
    · have hM : d ≤ 3 := by omega
      show "go"
      rename_i R HR fR sR hR
      have Rp : R ≠ p := ne_new fR pd
      have fR0 : Fr H R := fr_bk sd.out fR pd
      have sR0 : Hld (SB p H HR) := ⟨sd.out.trans (SB.of sR)⟩
      have pR := sR _ _ pd
      clear sd pd fR sR
      refine f_rng1 (fun i σ' H' => ∃ qs x y v4 v5 v6 v7 v8 v9 v10 v11 v12 v13, σ' = [some (.ref p), some (.int (1 + d)), some (.int 60), some (.ref R), v4, v5, v6, v7, v8, v9, v10, v11, v12, v13] ∧ H' R = some (.lst (qs.map V.ref)) ∧ qs.length = i ∧ TxA H' 61 qs ∧ (∀ q ∈ qs, q ≠ R ∧ q ≠ p ∧ Fr H q) ∧ Wel p H' x y ∧ Hld (SB p H H')) (by omega) (by omega) ⟨[], _, _, _, _, _, _, _, _, _, _, _, _, rfl, hR, rfl, (fun q m => (List.not_mem_nil m).elim), (fun q m => (List.not_mem_nil m).elim), ⟨pR, xd0, yd0, yd1⟩, sR0⟩ ?_ ?_
      · rintro i σ' H' hi ⟨qs, x2, y2, v4, v5, v6, v7, v8, v9, v10, v11, v12, v13, rfl, hq, ql, txs, nq, ⟨hp2, x20, y20, y21⟩, sb⟩
        clear hR pR sR0
        show "go"
        rename_i c cx cy Hc c0 c1 cx0 cy0 cy1 sc pc
        refine lc_drawtx 61 (by omega) (by omega) ⟨pc, cx0, cy0, cy1⟩ ?_ ?_
        · rintro j x3 y3 H3 hj s3 ⟨hp3, x30, y30, y31⟩ Z kZ
          show "go"
          rename_i r x4 y4 H4 r0 r1 x40 y40 y41 s4 hp4
          rw [show Int.toNat 60 = 60 from rfl] at r0 r1
          have rn : r.natAbs < 10 ^ 60 := by omega
          have rz : Sz 300 r := Sz.mk (by omega)
          show "go"
          exact kZ _ _ _ _ (TK.txn (n := 60) (by decide) rn) s4 ⟨hp4, x40, y40, y41⟩
        · intro D ws x3 y3 H3 fD wl wb s3 ⟨hp3, x30, y30, y31⟩ hD
          have hRc := sc _ _ Rp hq
          have hR3 := s3 _ _ Rp hRc
          have DR : D ≠ R := ne_new fD hRc
          have Dp : D ≠ p := ne_new fD pc
          have fD0 : Fr H D := fr_bk (sb.out.trans sc) fD pc
          show "go"
          rename_i H4 s4 h4
          refine ⟨qs ++ [D], x3, y3, _, _, _, _, _, _, _, _, _, _, rfl, by rw [h4, List.map_append]; rfl, by rw [List.length_append, ql]; rfl, ?_, fun q m => ?_, ⟨s4 _ _ (Ne.symm Rp) hp3, x30, y30, y31⟩, ⟨SB.skip ((sb.out.trans sc).trans s3) fR0 s4⟩⟩
          · exact (txs.imp (Nat.le_refl _) (fun q m o h => s4 _ _ (nq q m).1 (s3 _ _ (nq q m).2.1 (sc _ _ (nq q m).2.1 h)))).snoc (s4 _ _ DR hD) (by omega) (by omega) wb
          · rcases List.mem_append.mp m with m | m
            · exact nq q m
            · rw [List.mem_singleton.mp m]; exact ⟨DR, Dp, fD0⟩
      · rintro σ' H1 ⟨qs, x2, y2, v4, v5, v6, v7, v8, v9, v10, v11, v12, v13, rfl, hq, ql, txs, nq, ⟨hp2, x20, y20, y21⟩, sb⟩
        clear hR pR sR0
        show "go"
        rename_i u ux uy Hu u0 u1 ux0 uy0 uy1 su pu
        have hRu := su _ _ Rp hq
        have txu : TxA Hu 61 qs := txs.imp (Nat.le_refl _) fun q m o h => su _ _ (nq q m).2.1 h
        have sbu : Hld (SB p H Hu) := ⟨sb.out.trans su⟩
        clear su sb txs hq hp2
        refine ifs_2 (fun eu => ?_) (fun eu => ?_)
        · show "go"
          rename_i a ax ay Ha a0 a1 ax0 ay0 ay1 sa pa b bx by_ Hb b0 b1 bx0 by0 by1 sb2 pb
          have sab : Hld (SB p Hu Hb) := ⟨sa.trans sb2⟩
          have hRb := sab.out _ _ Rp hRu
          refine' ix_all (P := fun v => ∃ q ∈ qs, v = .ref q) hRb (by omega) (by rw [List.length_map]; omega) (fun v hv => ?_) ?_
          · obtain ⟨q, m, rfl⟩ := List.mem_map.mp hv
            exact ⟨q, m, rfl⟩
          rintro v ⟨q, mq, rfl⟩
          have txb : TxA Hb 61 qs := txu.imp (Nat.le_refl _) fun q m o h => sab.out _ _ (nq q m).2.1 h
          obtain ⟨ws, w1, w2, w3, w4⟩ := txb q mq
          show "go"
          rename_i L HL fL sL hL
          have hRL := sL _ _ hRb
          refine in_insert hRL (by rw [List.length_map]; omega) (by omega) (by omega) ?_
          intro H6 s6 h6
          have LR : L ≠ R := ne_new fL hRb
          have Lp : L ≠ p := ne_new fL pb
          have fL0 : Fr H L := fr_bk (sbu.out.trans sab.out) fL pb
          obtain ⟨qs3, Hz, eH, hR3, ql3, tx3, nq3, hp3, sb3⟩ : ∃ qs3 Hz, Hz = H6 ∧ Hz R = some (.lst (qs3.map V.ref)) ∧ (1 + d ≤ qs3.length ∧ qs3.length ≤ 4 + 1) ∧ TxA Hz 61 qs3 ∧ (∀ q ∈ qs3, q ≠ R ∧ q ≠ p ∧ Fr H q) ∧ Hz p = some (.lst [.int bx, .int by_]) ∧ Hld (SB p H Hz) := by
            refine ⟨qs.take a.toNat ++ [L] ++ qs.drop a.toNat, H6, rfl, by rw [h6]; simp only [List.map_append, List.map_take, List.map_drop, List.map_cons, List.map_nil], by simp only [List.length_append, List.length_take, List.length_drop, List.length_cons, List.length_nil]; omega, ?_, fun c m => ?_, s6 _ _ (Ne.symm Rp) (sL _ _ pb), ⟨SB.skip ((sbu.out.trans sab.out).trans (SB.of sL)) fR0 s6⟩⟩
            · exact (txb.imp (Nat.le_refl _) fun q m o h => s6 _ _ (nq q m).1 (sL _ _ h)).put (s6 _ _ LR hL) w2 w3 w4
            · rcases List.mem_append.mp m with m | m
              · rcases List.mem_append.mp m with m | m
                · exact nq c (List.mem_of_mem_take m)
                · rw [List.mem_singleton.mp m]; exact ⟨LR, Lp, fL0⟩
              · exact nq c (List.mem_of_mem_drop m)
          subst eH
          clear h6 s6 hRL sL fL hL txb w1 hRb sab sa sb2 pa pb txu hRu sbu pu
          have xz0 := bx0
          have yz0 := by0
          have yz1 := by1
          show "go"
          refine lc_pred (fun v => ∃ z, v = .str z ∧ TK (5 * (61 + 1)) z) (by show "hq") (by rw [List.length_map]; omega) ?_ ?_
          · intro v hv Hj sj Z kZ
            obtain ⟨q, m, rfl⟩ := List.mem_map.mp hv
            obtain ⟨ws, w1, w2, w3, w4⟩ := tx3 q m
            have w5 := sj _ _ w1
            show "go"
            refine o_joink w5 (TK.of1 (by decide +kernel) (by decide +kernel)) (fun v hv => by obtain ⟨w, mw, rfl⟩ := List.mem_map.mp hv; exact ⟨w, rfl, w4 w mw⟩) (by rw [List.length_map]; exact w3) (by decide) ?_
            intro z tz
            show "go"
            exact kZ _ _ ⟨z, rfl, tz⟩ (Same.refl _)
          intro D4 acc4 H4 f4 s4 al4 pa4 hD4
          show "go"
          refine o_joink (m := 5) hD4 (TK.of2 (by decide +kernel) (by decide +kernel)) pa4 (by rw [al4, List.length_map]; omega) (by decide) ?_
          intro z4 tz4
          have tg : TK 5600 z4 := tz4.mono (by decide)
          have hR4 := s4 _ _ hR3
          have hp4 := s4 _ _ hp3
          have tx4 : TxA H4 61 qs3 := tx3.imp (Nat.le_refl _) fun q m o h => s4 _ _ h
          have sb4 : Hld (SB p H H4) := ⟨sb3.out.trans (SB.of s4)⟩
          clear tz4 pa4 hD4 s4 f4 hR3 hp3 tx3 sb3
          show "go"
          rename_i m mx my Hm m0 m1 mx0 my0 my1 sm pm
          refine ifs_2 (fun e1 => ?_) (fun e1 => ?_)
          · show "go"
            rename_i z zx zy Hz hz zx0 zy0 zy1 sz pz T HT fT sT hT
            exact k T _ _ HT (((sb4.out.trans sm).trans sz).trans (SB.of sT)) (tg.mono (by decide)) (hz.mono (by decide)) hT
          · show "go"
            refine ifs_2 (fun e2 => ?_) (fun e2 => ?_)
            · have hRm := sm _ _ Rp hR4
              have txm : TxA Hm 61 qs3 := tx4.imp (Nat.le_refl _) fun q m o h => sm _ _ (nq3 q m).2.1 h
              have sbm : Hld (SB p H Hm) := ⟨sb4.out.trans sm⟩
              clear hR4 tx4 sb4 hp4 sm
              show "go"
              rename_i a ax ay Ha a0 a1 ax0 ay0 ay1 sa pa
              refine' ix_all (P := fun v => ∃ q ∈ qs3, v = .ref q) (by show "hp") (by omega) (by rw [List.length_map]; omega) (fun v hv => ?_) ?_
              · obtain ⟨q, m, rfl⟩ := List.mem_map.mp hv
                exact ⟨q, m, rfl⟩
              rintro v ⟨q, mq, rfl⟩
              have txa : TxA Ha 61 qs3 := txm.imp (Nat.le_refl _) fun q m o h => sa _ _ (nq3 q m).2.1 h
              have hRa := sa _ _ Rp hRm
              have sba : Hld (SB p H Ha) := ⟨sbm.out.trans sa⟩
              clear txm hRm sbm sa pm
              obtain ⟨ws, w1, w2, w3, w4⟩ := txa q mq
              obtain ⟨w, wr, rfl⟩ : ∃ w wr, ws = w :: wr := by
                cases ws with
                | nil => cases w2
                | cons w wr => exact ⟨w, wr, rfl⟩
              have qp := (nq3 q mq).2.1
              have qR := (nq3 q mq).1
              have tw := w4 w List.mem_cons_self
              simp only [List.map_cons] at w1
              have wl : wr.length + 1 ≤ 5 := w3
              show "go"
              rename_i r rx ry Hr r0 r1 rx0 ry0 ry1 sr pr g gx gy Hg g0 g1 gx0 gy0 gy1 sg pg zg tzg
              have wq := sg _ _ qp (sr _ _ qp w1)
              refine ix_at (k := 0) wq rfl rfl ?_
              show "go"
              clear wq
              rename_i W HW fW sW hW i ix iy Hi i0 i1 ix0 iy0 iy1 si pi
              have hWi := si _ _ (ne_new fW pg) hW
              try simp only [List.cons_append, List.nil_append] at hWi
              have tl : TK 62 (tx (10 ^ 60 + r)) := TK.txn (n := 61) (by decide) (by omega)
              simp only [Int.reducePow] at tl
              refine' ix_all (P := fun v => ∃ z, v = .str z ∧ TK 362 z) hWi (by omega) (by simp only [List.length_cons, List.length_nil]; omega) (fun v hv => ?_) ?_
              · simp only [List.mem_cons, List.not_mem_nil, or_false] at hv
                rcases hv with rfl | rfl | rfl | rfl | rfl | rfl | rfl
                · exact ⟨_, rfl, tl.mono (by decide)⟩
                · exact ⟨_, rfl, ((TK.of1 (by decide +kernel) (by decide +kernel)).app tl).mono (by decide)⟩
                · exact ⟨_, rfl, ((TK.of1 (by decide +kernel) (by decide +kernel)).app tw).mono (by decide)⟩
                · exact ⟨_, rfl, by decide +kernel, by decide +kernel⟩
                · exact ⟨_, rfl, by decide +kernel, by decide +kernel⟩
                · exact ⟨_, rfl, tzg.mono (by decide)⟩
                · exact ⟨_, rfl, ((TK.of1 (by decide +kernel) (by decide +kernel)).app tzg).mono (by decide)⟩
              rintro v ⟨zv, rfl, tzv⟩
              show "go"
              rename_i j jx jy Hj2 j0 j1 jx0 jy0 jy1 sj pj
              have sAll : Hld (SB p Ha Hj2) := ⟨((((sr.trans sg).trans (SB.of sW)).trans si).trans sj)⟩
              clear sr sg sW si hWi hW
              have w5 := sAll.out _ _ qp w1
              refine s_seti w5 j0 (by simp only [List.length_cons, List.length_map]; omega) ?_
              intro H8 s8 h8
              have tx8 : TxA H8 362 qs3 := TxA.set (ws := w :: wr) (txa.imp (by decide) fun q m o h => sAll.out _ _ (nq3 q m).2.1 h) s8 h8 w2 w3 (fun u m => (w4 u m).mono (by decide)) tzv
              have hR8 := s8 _ _ (Ne.symm qR) (sAll.out _ _ Rp hRa)
              have sb8 : Hld (SB p H H8) := ⟨SB.skip (sba.out.trans sAll.out) (nq3 q mq).2.2 s8⟩
              clear txa hRa sba sAll w5 w1 s8 h8
              show "go"
              refine lc_pred (fun v => ∃ z, v = .str z ∧ TK (5 * (362 + 1)) z) (by show "hq") (by rw [List.length_map]; omega) ?_ ?_
              · intro v hv Hj sj Z kZ
                obtain ⟨q, m, rfl⟩ := List.mem_map.mp hv
                obtain ⟨ws, w1, w2, w3, w4⟩ := tx8 q m
                have w5 := sj _ _ w1
                show "go"
                refine o_joink w5 (TK.of1 (by decide +kernel) (by decide +kernel)) (fun v hv => by obtain ⟨w, mw, rfl⟩ := List.mem_map.mp hv; exact ⟨w, rfl, w4 w mw⟩) (by rw [List.length_map]; exact w3) (by decide) ?_
                intro z tz
                show "go"
                exact kZ _ _ ⟨z, rfl, tz⟩ (Same.refl _)
              intro D9 acc9 H9 f9 s9 al9 pa9 hD9
              show "go"
              refine o_joink (m := 41) hD9 (TK.of2 (by decide +kernel) (by decide +kernel)) pa9 (by rw [al9, List.length_map]; omega) (by decide) ?_
              intro z9 tz9
              show "go"
              rename_i T HT fT sT hT
              exact k T _ _ HT ((sb8.out.trans (SB.of s9)).trans (SB.of sT)) (tg.mono (by decide)) (tz9.mono (by decide)) hT
            · show "go"
              rename_i z zx zy Hz hz zx0 zy0 zy1 sz pz
              refine ifs_2 (fun e4 => ?_) (fun e4 => ?_)
              · show "go"
                rename_i z2 xz2 yz2 Hz2 hz2 xz20 yz20 yz21 sz2 pz2 T HT fT sT hT
                exact k T _ _ HT ((((sb4.out.trans sm).trans sz).trans sz2).trans (SB.of sT)) (tg.mono (by decide)) (hz2.mono (by decide)) hT
              · show "go"
                rename_i T HT fT sT hT
                exact k T _ _ HT (((sb4.out.trans sm).trans sz).trans (SB.of sT)) (tg.mono (by decide)) (hz.mono (by decide)) hT
        · obtain ⟨qs3, Hz, eH, hR3, ql3, tx3, nq3, hp3, sb3⟩ : ∃ qs3 Hz, Hz = Hu ∧ Hz R = some (.lst (qs3.map V.ref)) ∧ (1 + d ≤ qs3.length ∧ qs3.length ≤ 4 + 1) ∧ TxA Hz 61 qs3 ∧ (∀ q ∈ qs3, q ≠ R ∧ q ≠ p ∧ Fr H q) ∧ Hz p = some (.lst [.int ux, .int uy]) ∧ Hld (SB p H Hz) :=
            ⟨qs, Hu, rfl, hRu, by omega, txu, nq, pu, sbu⟩
          subst eH
          clear txu hRu sbu pu
          have xz0 := ux0
          have yz0 := uy0
          have yz1 := uy1
          show "go"
          refine lc_pred (fun v => ∃ z, v = .str z ∧ TK (5 * (61 + 1)) z) (by show "hq") (by rw [List.length_map]; omega) ?_ ?_
          · intro v hv Hj sj Z kZ
            obtain ⟨q, m, rfl⟩ := List.mem_map.mp hv
            obtain ⟨ws, w1, w2, w3, w4⟩ := tx3 q m
            have w5 := sj _ _ w1
            show "go"
            refine o_joink w5 (TK.of1 (by decide +kernel) (by decide +kernel)) (fun v hv => by obtain ⟨w, mw, rfl⟩ := List.mem_map.mp hv; exact ⟨w, rfl, w4 w mw⟩) (by rw [List.length_map]; exact w3) (by decide) ?_
            intro z tz
            show "go"
            exact kZ _ _ ⟨z, rfl, tz⟩ (Same.refl _)
          intro D4 acc4 H4 f4 s4 al4 pa4 hD4
          show "go"
          refine o_joink (m := 5) hD4 (TK.of2 (by decide +kernel) (by decide +kernel)) pa4 (by rw [al4, List.length_map]; omega) (by decide) ?_
          intro z4 tz4
          have tg : TK 5600 z4 := tz4.mono (by decide)
          have hR4 := s4 _ _ hR3
          have hp4 := s4 _ _ hp3
          have tx4 : TxA H4 61 qs3 := tx3.imp (Nat.le_refl _) fun q m o h => s4 _ _ h
          have sb4 : Hld (SB p H H4) := ⟨sb3.out.trans (SB.of s4)⟩
          clear tz4 pa4 hD4 s4 f4 hR3 hp3 tx3 sb3
          show "go"
          rename_i m mx my Hm m0 m1 mx0 my0 my1 sm pm
          refine ifs_2 (fun e1 => ?_) (fun e1 => ?_)
          · show "go"
            rename_i z zx zy Hz hz zx0 zy0 zy1 sz pz T HT fT sT hT
            exact k T _ _ HT (((sb4.out.trans sm).trans sz).trans (SB.of sT)) (tg.mono (by decide)) (hz.mono (by decide)) hT
          · show "go"
            refine ifs_2 (fun e2 => ?_) (fun e2 => ?_)
            · have hRm := sm _ _ Rp hR4
              have txm : TxA Hm 61 qs3 := tx4.imp (Nat.le_refl _) fun q m o h => sm _ _ (nq3 q m).2.1 h
              have sbm : Hld (SB p H Hm) := ⟨sb4.out.trans sm⟩
              clear hR4 tx4 sb4 hp4 sm
              show "go"
              rename_i a ax ay Ha a0 a1 ax0 ay0 ay1 sa pa
              refine' ix_all (P := fun v => ∃ q ∈ qs3, v = .ref q) (by show "hp") (by omega) (by rw [List.length_map]; omega) (fun v hv => ?_) ?_
              · obtain ⟨q, m, rfl⟩ := List.mem_map.mp hv
                exact ⟨q, m, rfl⟩
              rintro v ⟨q, mq, rfl⟩
              have txa : TxA Ha 61 qs3 := txm.imp (Nat.le_refl _) fun q m o h => sa _ _ (nq3 q m).2.1 h
              have hRa := sa _ _ Rp hRm
              have sba : Hld (SB p H Ha) := ⟨sbm.out.trans sa⟩
              clear txm hRm sbm sa pm
              obtain ⟨ws, w1, w2, w3, w4⟩ := txa q mq
              obtain ⟨w, wr, rfl⟩ : ∃ w wr, ws = w :: wr := by
                cases ws with
                | nil => cases w2
                | cons w wr => exact ⟨w, wr, rfl⟩
              have qp := (nq3 q mq).2.1
              have qR := (nq3 q mq).1
              have tw := w4 w List.mem_cons_self
              simp only [List.map_cons] at w1
              have wl : wr.length + 1 ≤ 5 := w3
              show "go"
              rename_i r rx ry Hr r0 r1 rx0 ry0 ry1 sr pr g gx gy Hg g0 g1 gx0 gy0 gy1 sg pg zg tzg
              have wq := sg _ _ qp (sr _ _ qp w1)
              refine ix_at (k := 0) wq rfl rfl ?_
              show "go"
              clear wq
              rename_i W HW fW sW hW i ix iy Hi i0 i1 ix0 iy0 iy1 si pi
              have hWi := si _ _ (ne_new fW pg) hW
              try simp only [List.cons_append, List.nil_append] at hWi
              have tl : TK 62 (tx (10 ^ 60 + r)) := TK.txn (n := 61) (by decide) (by omega)
              simp only [Int.reducePow] at tl
              refine' ix_all (P := fun v => ∃ z, v = .str z ∧ TK 362 z) hWi (by omega) (by simp only [List.length_cons, List.length_nil]; omega) (fun v hv => ?_) ?_
              · simp only [List.mem_cons, List.not_mem_nil, or_false] at hv
                rcases hv with rfl | rfl | rfl | rfl | rfl | rfl | rfl
                · exact ⟨_, rfl, tl.mono (by decide)⟩
                · exact ⟨_, rfl, ((TK.of1 (by decide +kernel) (by decide +kernel)).app tl).mono (by decide)⟩
                · exact ⟨_, rfl, ((TK.of1 (by decide +kernel) (by decide +kernel)).app tw).mono (by decide)⟩
                · exact ⟨_, rfl, by decide +kernel, by decide +kernel⟩
                · exact ⟨_, rfl, by decide +kernel, by decide +kernel⟩
                · exact ⟨_, rfl, tzg.mono (by decide)⟩
                · exact ⟨_, rfl, ((TK.of1 (by decide +kernel) (by decide +kernel)).app tzg).mono (by decide)⟩
              rintro v ⟨zv, rfl, tzv⟩
              show "go"
              rename_i j jx jy Hj2 j0 j1 jx0 jy0 jy1 sj pj
              have sAll : Hld (SB p Ha Hj2) := ⟨((((sr.trans sg).trans (SB.of sW)).trans si).trans sj)⟩
              clear sr sg sW si hWi hW
              have w5 := sAll.out _ _ qp w1
              refine s_seti w5 j0 (by simp only [List.length_cons, List.length_map]; omega) ?_
              intro H8 s8 h8
              have tx8 : TxA H8 362 qs3 := TxA.set (ws := w :: wr) (txa.imp (by decide) fun q m o h => sAll.out _ _ (nq3 q m).2.1 h) s8 h8 w2 w3 (fun u m => (w4 u m).mono (by decide)) tzv
              have hR8 := s8 _ _ (Ne.symm qR) (sAll.out _ _ Rp hRa)
              have sb8 : Hld (SB p H H8) := ⟨SB.skip (sba.out.trans sAll.out) (nq3 q mq).2.2 s8⟩
              clear txa hRa sba sAll w5 w1 s8 h8
              show "go"
              refine lc_pred (fun v => ∃ z, v = .str z ∧ TK (5 * (362 + 1)) z) (by show "hq") (by rw [List.length_map]; omega) ?_ ?_
              · intro v hv Hj sj Z kZ
                obtain ⟨q, m, rfl⟩ := List.mem_map.mp hv
                obtain ⟨ws, w1, w2, w3, w4⟩ := tx8 q m
                have w5 := sj _ _ w1
                show "go"
                refine o_joink w5 (TK.of1 (by decide +kernel) (by decide +kernel)) (fun v hv => by obtain ⟨w, mw, rfl⟩ := List.mem_map.mp hv; exact ⟨w, rfl, w4 w mw⟩) (by rw [List.length_map]; exact w3) (by decide) ?_
                intro z tz
                show "go"
                exact kZ _ _ ⟨z, rfl, tz⟩ (Same.refl _)
              intro D9 acc9 H9 f9 s9 al9 pa9 hD9
              show "go"
              refine o_joink (m := 41) hD9 (TK.of2 (by decide +kernel) (by decide +kernel)) pa9 (by rw [al9, List.length_map]; omega) (by decide) ?_
              intro z9 tz9
              show "go"
              rename_i T HT fT sT hT
              exact k T _ _ HT ((sb8.out.trans (SB.of s9)).trans (SB.of sT)) (tg.mono (by decide)) (tz9.mono (by decide)) hT
            · show "go"
              rename_i z zx zy Hz hz zx0 zy0 zy1 sz pz
              refine ifs_2 (fun e4 => ?_) (fun e4 => ?_)
              · show "go"
                rename_i z2 xz2 yz2 Hz2 hz2 xz20 yz20 yz21 sz2 pz2 T HT fT sT hT
                exact k T _ _ HT ((((sb4.out.trans sm).trans sz).trans sz2).trans (SB.of sT)) (tg.mono (by decide)) (hz2.mono (by decide)) hT
              · show "go"
                rename_i T HT fT sT hT
                exact k T _ _ HT (((sb4.out.trans sm).trans sz).trans (SB.of sT)) (tg.mono (by decide)) (hz.mono (by decide)) hT
/-! #### _law_integers: 0 told, 1 one -/
def sp__law_integers (T : Txt K mg) : Sp := fun vs H Q _ => ∃ (p : Addr) (ns : List Int), vs = [.ref p] ∧ (H p = some (.lst (ns.map V.int))) ∧ ∀ H', Same H H' → Q (.bl true) H'
theorem len__law_integers {vs H Q E} (T : Txt K mg) (h : sp__law_integers T vs H Q E) : vs.length = 1 := by obtain ⟨p, ns, rfl, _⟩ := h; rfl
theorem use__law_integers {T : Txt K mg} {H : Hp} {Q : VK} {E : XK} {p : Addr} {ns : List Int} (h1 : H p = some (.lst (ns.map V.int))) (k : ∀ H', Same H H' → Q (.bl true) H') : sp__law_integers T [.ref p] H Q E := ⟨p, ns, rfl, h1, k⟩
local macro_rules | `(tactic| show "own") => `(tactic| (((with_reducible refine' use__law_integers ?s1 ?nxt); (case s1 => (show "hp")); (case' nxt => skip)); intro _ _))

theorem ok__law_integers (T : Txt K mg) : FnOk P w K mg base CX0 1 T.f__law_integers T.fd__law_integers ["told"] (sp__law_integers T) := by
  refine T.F__law_integers.ok sc__law_integers (fun vs H Q E h => ?_) (fun cdv A outer s H vs Q E hr h => ?_)
  · exact len__law_integers T h
  · refine ⟨_, (pss_cons (ps_if (pt_not (ptTK (K := K) rfl (pe_callB (c_isiK (K := K) rfl) (by rfl) T.z_isinstance (by decide +kernel) (pa_cons (pv 0) (pa_cons (pe_bltn (v := .ty "list") (by rfl) T.z_list (by decide +kernel) rfl) pa_nil))) (by intro _; rfl))) (pss_one (ps_ret pe_bl)) pss_nil)
    (pss_cons (ps_for PassesOwn.never rfl (pi_listK (K := K) rfl (pv 0)) (pg_name (i := 1) sc__law_integers.nd rfl (Or.inl rfl)) (pss_one (ps_if (PW.pt (pw_or (pt_not (ptTK (K := K) rfl (pe_callB (c_isiK (K := K) rfl) (by rfl) T.z_isinstance (by decide +kernel) (pa_cons (pv 1) (pa_cons (pe_bltn (v := .ty "int") (by rfl) T.z_int (by decide +kernel) rfl) pa_nil))) (by intro _; rfl))) (pw_or1 (ptTK (K := K) rfl (pe_callB (c_isiK (K := K) rfl) (by rfl) T.z_isinstance (by decide +kernel) (pa_cons (pv 1) (pa_cons (pe_bltn (v := .ty "bool") (by rfl) T.z_bool (by decide +kernel) rfl) pa_nil))) (by intro _; rfl))))) (pss_one (ps_ret pe_bl)) pss_nil)))
    (pss_one (ps_ret pe_bl)))), ?_⟩
    clear hr
    obtain ⟨p, ns, rfl, h1, k⟩ := h
    refine st_eq (σ' := [some _, none]) rfl ?_
    show "go"
    refine' f_each1 (xs := ns.map V.int) 1 ?a ⟨_, rfl⟩ ?b ?c
    case a => show "hp"
    case b =>
      intro t ht v H' s
      simp only [List.set_cons_succ, List.set_cons_zero]
      obtain ⟨z, _, rfl⟩ := List.mem_map.mp ht
      show "go"
      exact ⟨⟨_, rfl⟩, by show "same"⟩
    case c =>
      intro v H' s
      simp only [List.set_cons_succ, List.set_cons_zero]
      show "go"
      exact k _ (by show "same")
/-! #### SquareError.__init__: 0 self, 1 value -/
def sp_SquareError___init__ (_ : Txt K mg) : Sp := spErr K "value"
theorem len_SquareError___init__ {vs H Q E} (T : Txt K mg) (h : sp_SquareError___init__ T vs H Q E) : vs.length = 2 := by obtain ⟨a, C, v, rfl, _⟩ := h; rfl
theorem use_err {T : Txt K mg} {H : Hp} {C : Addr} {v : V} {Q : XK} (e : Erc K C) (n : PySem.W.findIn K (.ref C) "value" = some none) (h : ∀ d H', Fr H d → Same H H' → H' d = some (.xd [("value", v)]) → Q (.ref C) (some d) H') : MkOR C (sp_SquareError___init__ T) [v] H Q := err_at e n h
theorem ok_SquareError___init__ (T : Txt K mg) : FnOk P w K mg base CX0 1 T.f_SquareError___init__ T.fd_SquareError___init__ ["self", "value"] (sp_SquareError___init__ T) := by
  refine T.F_SquareError___init__.ok sc_SquareError___init__ (fun vs H Q E h => ?_) (fun cdv A outer s H vs Q E hr h => ?_)
  · exact len_SquareError___init__ T h
  · refine ⟨_, (pss_one (ps_ost (pv 0) (pv 1))), ?_⟩
    clear hr
    obtain ⟨a, C, v, rfl, ha, hO, hn, k⟩ := h
    refine st_eq (σ' := [some _, some _]) rfl ?_
    exact ⟨_, rfl, _, rfl, a, C, rfl, hO, hn, .inl ⟨ha, fun dx h1 h2 => k dx h1 h2⟩⟩
/-! #### _integer: 0 text, 1 digits -/
def sp__integer (T : Txt K mg) : Sp := fun vs H Q _ => ∃ (l : List Nat), vs = [.str (S l)] ∧ (l.length ≤ 100000) ∧ Q (numV (numI l)) H
theorem len__integer {vs H Q E} (T : Txt K mg) (h : sp__integer T vs H Q E) : vs.length = 1 := by obtain ⟨l, rfl, _⟩ := h; rfl
theorem use__integer {T : Txt K mg} {H : Hp} {Q : VK} {E : XK} {l : List Nat} (hl : l.length ≤ 100000) (k : Q (numV (numI l)) H) : sp__integer T [.str (S l)] H Q E := ⟨l, rfl, hl, k⟩
local macro_rules | `(tactic| show "own") => `(tactic| (((with_reducible refine' use__integer ?s1 ?nxt); (case s1 => (omega)); (case' nxt => skip))))
theorem use_intI {T : Txt K mg} {H : Hp} {Q : VK} {E : XK} {i : Int} (h : i.natAbs < 10 ^ 60) (k : Q (.int i) H) : sp__integer T [.str (S (itx i))] H Q E := use__integer (by have := itx_len h; omega) (by rw [numI_itx h]; exact k)
local macro_rules | `(tactic| show "own") => `(tactic| ((with_reducible refine' use_intI ?s1 ?nxt); (case s1 => (assumption)); (case' nxt => skip)))

theorem ok__integer (T : Txt K mg) : FnOk P w K mg base CX0 1 T.f__integer T.fd__integer ["text"] (sp__integer T) := by
  refine T.F__integer.ok sc__integer (fun vs H Q E h => ?_) (fun cdv A outer s H vs Q E hr h => ?_)
  · exact len__integer T h
  · refine ⟨_, (pss_cons (ps_set (i := 1) sc__integer.nd rfl (Or.inl rfl) (pe_ifExp (ptTK (K := K) rfl (pe_sw (pv 0) pe_str) (by intro _; rfl)) (pe_slice (C8.sl_txt) (pv 0) (po_some pe_int) po_none) (pv 0)))
    (pss_cons (ps_if (PW.pt (pw_or (pt_not (ptTK (K := K) rfl (pe_ia (pv 1)) (by intro _; rfl))) (pw_or (pt_not (ptTK (K := K) rfl (pe_id (pv 1)) (by intro _; rfl))) (pw_or1 (pt_cmpR op_gtU (pe_callB c_lenS (by rfl) T.z_len (by decide +kernel) (pa_cons (pv 1) pa_nil)) pe_int (nomark _)))))) (pss_one (ps_ret pe_non)) pss_nil)
    (pss_cons (ps_if (PW.pt (pw_and (ptTK (K := K) rfl (pe_sw (pv 1) pe_str) (by intro _; rfl)) (pw_and1 (pt_cmpR (op_neK (K := K) rfl hr.units) (pv 0) pe_str (nomark _))))) (pss_one (ps_ret pe_non)) pss_nil)
    (pss_one (ps_ret (pe_callTy c_intS (by rfl) T.z_int (by decide +kernel) (pa_cons (pv 0) pa_nil))))))), ?_⟩
    clear hr
    obtain ⟨l, rfl, hl, k⟩ := h
    refine st_eq (σ' := [some _, none]) rfl ?_
    by_cases c : l.head? = some 45
    · obtain ⟨t, rfl⟩ : ∃ t, l = 45 :: t := by
        cases l with
        | nil => cases c
        | cons a r => cases c; exact ⟨r, rfl⟩
      rw [List.length_cons] at hl
      have e1 : Txt.startswith (S (45 :: t)) "-" = true := by
        show Txt.startswith (S (45 :: t)) (S [45]) = true
        rw [starts_S]; rfl
      have e2 : Txt.slice (S (45 :: t)) (some 1) none = S t := SX.slice_from (a := 45 :: t) (i := 1) (by decide)
      have e8 : ¬ (S (45 :: t) = ("0" : Str)) := fun e => by
        have := SX.S_inj (b := [48]) e
        cases this
      have en : numI (45 :: t) = if digL t = true ∧ t.length ≤ 60 ∧ t.head? ≠ some 48 then some (-((NumText.digitsVal t : Nat) : Int)) else none := by
        unfold numI
        rw [if_pos c]
        rfl
      rw [en] at k
      cases e3 : Txt.isascii (S t) with
      | false =>
        have dn : digL t ≠ true := fun d => by rw [dig_asc d] at e3; cases e3
        rw [if_neg (fun q => dn q.1)] at k
        show "go"
        exact k
      | true =>
        have e4 := isd_S e3
        cases d : digL t with
        | false =>
          rw [d] at e4 k
          rw [if_neg (fun q => by cases q.1)] at k
          show "go"
          exact k
        | true =>
          rw [d] at e4 k
          by_cases z : t.length ≤ 60
          · by_cases y : t.head? = some 48
            · have e5 : Txt.startswith (S t) "0" = true := by
                show Txt.startswith (S t) (S [48]) = true
                rw [starts_S, y]; rfl
              rw [if_neg (fun q => q.2.2 y)] at k
              show "go"
              exact k
            · have e5 : Txt.startswith (S t) "0" = false := by
                show Txt.startswith (S t) (S [48]) = false
                rw [starts_S, decide_eq_false y]
              have e6 := int_neg d z
              rw [if_pos ⟨rfl, z, y⟩] at k
              show "go"
              exact k
          · rw [if_neg (fun q => z q.2.1)] at k
            show "go"
            exact k
    · have e1 : Txt.startswith (S l) "-" = false := by
        show Txt.startswith (S l) (S [45]) = false
        rw [starts_S, decide_eq_false c]
      have en : numI l = if digL l = true ∧ l.length ≤ 60 ∧ (l.head? = some 48 → l = [48]) then some ((NumText.digitsVal l : Nat) : Int) else none := by
        unfold numI
        rw [if_neg c]
      rw [en] at k
      cases e3 : Txt.isascii (S l) with
      | false =>
        have dn : digL l ≠ true := fun d => by rw [dig_asc d] at e3; cases e3
        rw [if_neg (fun q => dn q.1)] at k
        show "go"
        exact k
      | true =>
        have e4 := isd_S e3
        cases d : digL l with
        | false =>
          rw [d] at e4 k
          rw [if_neg (fun q => by cases q.1)] at k
          show "go"
          exact k
        | true =>
          rw [d] at e4 k
          by_cases z : l.length ≤ 60
          · have e6 := int_pos d z
            by_cases y : l.head? = some 48
            · have e5 : Txt.startswith (S l) "0" = true := by
                show Txt.startswith (S l) (S [48]) = true
                rw [starts_S, y]; rfl
              by_cases x : l = [48]
              · rw [if_pos ⟨rfl, z, fun _ => x⟩] at k
                have x2 : S l = ("0" : Str) := by rw [x]; rfl
                show "go"
                exact k
              · rw [if_neg (fun q => x (q.2.2 y))] at k
                have x2 : ¬ (S l = ("0" : Str)) := fun e => x (SX.S_inj (b := [48]) e)
                show "go"
                exact k
            · have e5 : Txt.startswith (S l) "0" = false := by
                show Txt.startswith (S l) (S [48]) = false
                rw [starts_S, decide_eq_false y]
              rw [if_pos ⟨rfl, z, fun e => absurd e y⟩] at k
              show "go"
              exact k
          · rw [if_neg (fun q => z q.2.1)] at k
            show "go"
            exact k
/-! #### _integers: 0 words, 1 numbers, 2 word -/
def sp__integers (T : Txt K mg) : Sp := fun vs H Q _ => ∃ (p : Addr) (ws : List (List Nat)), vs = [.ref p] ∧ (H p = some (.lst (ws.map strS))) ∧ (ws.length ≤ 100000) ∧ (∀ w ∈ ws, w.length ≤ 100000) ∧ ∀ v H', Same H H' → May ((seqO (ws.map numI)).map lstI) H H' v → Q v H'
theorem len__integers {vs H Q E} (T : Txt K mg) (h : sp__integers T vs H Q E) : vs.length = 1 := by obtain ⟨p, ws, rfl, _⟩ := h; rfl
theorem use__integers {T : Txt K mg} {H : Hp} {Q : VK} {E : XK} {p : Addr} {ws : List (List Nat)} (h1 : H p = some (.lst (ws.map strS))) (hn : ws.length ≤ 100000) (hw : ∀ w ∈ ws, w.length ≤ 100000) (k : ∀ v H', Same H H' → May ((seqO (ws.map numI)).map lstI) H H' v → Q v H') : sp__integers T [.ref p] H Q E := ⟨p, ws, rfl, h1, hn, hw, k⟩
local macro_rules | `(tactic| show "own") => `(tactic| (((with_reducible refine' use__integers ?s1 ?s2 ?s3 ?nxt); (case s1 => (show "hp")); (case s2 => (omega)); (case s3 => (assumption)); (case' nxt => skip)); intro _ _ _ _))

theorem ok__integers (T : Txt K mg) : FnOk P w K mg base CX0 2 T.f__integers T.fd__integers ["words"] (sp__integers T) := by
  have G__integer : FnOk P w K mg base CX0 1 T.f__integer T.fd__integer ["text"] (sp__integer T) := ok__integer T
  refine T.F__integers.ok sc__integers (fun vs H Q E h => ?_) (fun cdv A outer s H vs Q E hr h => ?_)
  · exact len__integers T h
  · refine ⟨_, (pss_cons (ps_setLc (i := 1) (own := [("word", 2)]) rfl sc__integers.nd rfl rfl (sw_true rfl rfl rfl (by decide +kernel)) (pi_listK (K := K) rfl (pv 0)) (blkOk_by (own := [("word", 2)]) (N := N__integers) (sc := defScope s__integers) (by first | decide +kernel | rfl)) (fun _ _ _ _ _ => (pg_name (i := 2) sc__integers.nd rfl (by first | exact Or.inl rfl | exact Or.inr rfl))) (fun _ _ _ _ _ => pts_nil) (fun _ _ _ _ _ => (pe_call G__integer (hr.mono (by decide)) rfl T.g__integer T.F__integer.kp T.b__integer .nil pass0 (pa_cons (pv 2) pa_nil))))
    (pss_cons (ps_if (pt_cmpR (op_inK (K := K) rfl) pe_non (pv 1) (by rfl)) (pss_one (ps_ret pe_non)) pss_nil)
    (pss_one (ps_ret (pv 1))))), ?_⟩
    clear hr
    obtain ⟨p, ws, rfl, h1, hn, hw, k⟩ := h
    refine st_eq (σ' := [some _, none, none]) rfl ?_
    show "go"
    refine lc_fun L3.wF (by show "hq") (by rw [List.length_map]; exact hn) ?_ ?_
    · intro x hx H1 s1 R kR
      obtain ⟨w, hw2, rfl⟩ := List.mem_map.mp hx
      have lw := hw w hw2
      have kR' : ∀ H2, Same H1 H2 → R (some (numV (numI w))) H2 := kR
      clear kR
      show "go"
      exact kR' _ (by show "same")
    intro D HD fD sD hD0
    have hD : HD D = some (.lst ((ws.map numI).map numV)) := by rw [hD0, fm_words]
    clear hD0
    show "go"
    cases e : seqO (ws.map numI) with
    | none =>
      have e2 := anyN_yes e
      rw [e] at k
      show "go"
      exact k _ _ (by show "same") (.inr ⟨rfl, rfl⟩)
    | some l =>
      have e2 := anyN_no e
      have e3 := seqO_some e
      rw [e] at k
      rw [e3] at hD
      have hD2 : HD D = some (lstI l) := by
        rw [hD]
        show some (HO.lst _) = some (HO.lst _)
        rw [List.map_map]
        rfl
      rw [e3] at e2
      show "go"
      exact k _ _ (by show "same") (.inl ⟨D, _, rfl, rfl, fD, by show "hp"⟩)
/-! #### read_square: 0 text, 1 rows, 2 row_text -/
def sp_read_square (T : Txt K mg) : Sp := fun vs H Q E => ∃ l : List Nat, vs = [.str (S l)] ∧ l.length ≤ 90000 ∧
  (readS l = none → ∀ dd H', Same H H' → H' dd = some (.xd [("value", .str (S l))]) → E (.ref T.C_Unreadable) (some dd) H') ∧
  (∀ nss, readS l = some nss → ∀ D qs H', Fr H D → Same H H' → Rows H' qs nss → qs.Nodup → D ∉ qs → (∀ q ∈ qs, Fr H q) → H' D = some (.lst (qs.map V.ref)) → Q (.ref D) H')
theorem len_read_square {vs H Q E} (T : Txt K mg) (h : sp_read_square T vs H Q E) : vs.length = 1 := by obtain ⟨l, rfl, _⟩ := h; rfl

theorem ok_read_square (T : Txt K mg) : FnOk P w K mg base (L2.CX P w) 3 T.f_read_square T.fd_read_square ["text"] (sp_read_square T) := by
  have G_SquareError___init__ : FnOk P w K mg base CX0 1 T.f_SquareError___init__ T.fd_SquareError___init__ ["self", "value"] (sp_SquareError___init__ T) := ok_SquareError___init__ T
  have G__integers : FnOk P w K mg base CX0 2 T.f__integers T.fd__integers ["words"] (sp__integers T) := ok__integers T
  refine T.F_read_square.okX sc_read_square (fun vs H Q E h => ?_) (fun cdv A outer s H vs Q E hr h => ?_)
  · exact len_read_square T h
  · refine ⟨_, (pss_cons (ps_setLc (i := 1) (own := [("row_text", 2)]) rfl sc_read_square.nd rfl rfl (sw_true rfl rfl rfl (by decide +kernel)) (pi_listK (K := K) rfl (pe_sp (pv 0) pe_str)) (blkOk_by (own := [("row_text", 2)]) (N := N_read_square) (sc := defScope s_read_square) (by first | decide +kernel | rfl)) (fun _ _ _ _ _ => (pg_name (i := 2) sc_read_square.nd rfl (by first | exact Or.inl rfl | exact Or.inr rfl))) (fun _ _ _ _ _ => pts_nil) (fun _ _ _ _ _ => (pe_call G__integers (hr.mono (by decide)) rfl T.g__integers T.F__integers.kp T.b__integers .nil pass0 (pa_cons (pe_sp (pv 2) pe_str) pa_nil))))
    (pss_cons (ps_if (pt_cmpR (op_inDK (K := K) rfl (units65 hr)) pe_non (pv 1) (by rfl)) (pss_one (ps_raise rfl (takes_of rfl rfl rfl rfl) (pmk_oex T.er_Unreadable.o T.ii_Unreadable T.ti_Unreadable G_SquareError___init__ (hr.mono (by decide)) T.b_SquareError___init__ .nil pass0 rfl T.gC_Unreadable (pa_cons (pv 0) pa_nil)))) pss_nil)
    (pss_one (ps_ret (pv 1))))), ?_⟩
    clear hr
    obtain ⟨l, rfl, hl, k1, k⟩ := h
    refine st_eq (σ' := [some _, none, none]) rfl ?_
    have mem : ∀ p ∈ TL.spl [59, 32] 0 [] l, p.length ≤ 90000 := fun p m => by
      obtain ⟨m1, _⟩ := spl_mem _ _ _ _ _ m
      rw [List.length_nil] at m1
      omega
    have sp : Txt.split (S l) "; " = (TL.spl [59, 32] 0 [] l).map S := splitR l
    have np := spl_len [59, 32] l 0 []
    have er : readS l = seqO ((TL.spl [59, 32] 0 [] l).map rowI) := rfl
    generalize eP : TL.spl [59, 32] 0 [] l = P9 at *
    show "go"
    rename_i p0 Hp0 f0 s0 h0
    refine lc_may (xs := P9.map strS) (fun i => ((P9.map rowI).getD i none).map lstI) (by show "hq") (by rw [List.length_map]; omega) ?_ ?_
    · intro i v hv H1 s1 Z kZ
      obtain ⟨w, hw, rfl⟩ := getS hv
      have lw := mem w (List.mem_of_getElem? hw)
      have e0 : (P9.map rowI).getD i none = rowI w := by rw [List.getD_eq_getElem?_getD, List.getElem?_map, hw]; rfl
      rw [e0] at kZ
      have sw : Txt.split (S w) " " = (TL.spl [32] 0 [] w).map S := splitW w
      have mw : ∀ u ∈ TL.spl [32] 0 [] w, u.length ≤ 100000 := fun u m => by
        obtain ⟨m1, _⟩ := spl_mem _ _ _ _ _ m
        rw [List.length_nil] at m1
        omega
      have nw := spl_len [32] w 0 []
      have nw2 : (TL.spl [32] 0 [] w).length ≤ 100000 := by omega
      show "go"
      rename_i P2 HP2 fP2 sP2 hP2 v2 H2 s2 m2
      exact kZ _ _ (by show "same") (m2.back sP2)
    intro D us HD fD sD ul und hDn hm hD
    have ul2 : us.length = (P9.map rowI).length := by rw [ul, List.length_map, List.length_map]
    have hdp : DpAll K HD us ((P9.map rowI).map dOf) := may_dp ul2 hm
    cases e : seqO (P9.map rowI) with
    | none =>
      rw [e] at er
      have e2 := anyN_yes e
      show "go"
      exact use_err T.er_Unreadable T.vn_Unreadable fun dd H' f s h => k1 er dd H' (by show "same") h
    | some nss =>
      rw [e] at er
      have e2 := anyN_no e
      show "go"
      rw [seqO_some e] at hm ul2
      rw [List.length_map] at ul2
      obtain ⟨qs, rfl, rows, e4, fq⟩ := may_rows ul2 hm
      rw [e4] at und hDn
      exact k nss er D qs HD ⟨Same.back s0 fD.out⟩ (by show "same") rows und hDn (fun q m => ⟨Same.back s0 (fq q m).out⟩) hD
/-! #### show_square: 0 rows, 1 row, 2 number -/
def sp_show_square (T : Txt K mg) : Sp := fun vs H Q _ => ∃ (l : Addr) (qs : List Addr) (nss : List (List Int)), vs = [.ref l] ∧ (H l = some (.lst (qs.map V.ref))) ∧ (Rows H qs nss) ∧ (Fin2 nss) ∧ ∀ H', Same H H' → Q (.str (rowsTx nss)) H'
theorem len_show_square {vs H Q E} (T : Txt K mg) (h : sp_show_square T vs H Q E) : vs.length = 1 := by obtain ⟨l, qs, nss, rfl, _⟩ := h; rfl
theorem use_show_square {T : Txt K mg} {H : Hp} {Q : VK} {E : XK} {l : Addr} {qs : List Addr} {nss : List (List Int)} (h1 : H l = some (.lst (qs.map V.ref))) (hr : Rows H qs nss) (hf : Fin2 nss) (k : ∀ H', Same H H' → Q (.str (rowsTx nss)) H') : sp_show_square T [.ref l] H Q E := ⟨l, qs, nss, rfl, h1, hr, hf, k⟩
local macro_rules | `(tactic| show "own") => `(tactic| (((with_reducible refine' use_show_square ?s1 ?s2 ?s3 ?nxt); (case s1 => (show "hp")); (case s2 => (show "rows")); (case s3 => (assumption)); (case' nxt => skip)); intro _ _))

theorem ok_show_square (T : Txt K mg) : FnOk P w K mg base CX0 1 T.f_show_square T.fd_show_square ["rows"] (sp_show_square T) := by
  refine T.F_show_square.ok sc_show_square (fun vs H Q E h => ?_) (fun cdv A outer s H vs Q E hr h => ?_)
  · exact len_show_square T h
  · refine ⟨_, (pss_one (ps_ret (pe_joinK (K := K) rfl pe_str (pe_lc (own := [("row", 1)]) rfl sc_show_square.nd (pi_listK (K := K) rfl (pv 0)) (blkOk_by (own := [("row", 1)]) (N := N_show_square) (sc := defScope s_show_square) (by first | decide +kernel | rfl)) (fun _ _ _ _ _ => (pg_name (i := 1) sc_show_square.nd rfl (by first | exact Or.inl rfl | exact Or.inr rfl))) (fun _ _ _ _ _ => pts_nil) (fun _ _ _ _ _ => (pe_joinK (K := K) rfl pe_str (pe_lc (own := [("number", 2)]) rfl sc_show_square.nd (pi_listK (K := K) rfl (pv 1)) (blkOk_by (own := [("number", 2)]) (N := N_show_square) (sc := _) (by first | decide +kernel | rfl)) (fun _ _ _ _ _ => (pg_name (i := 2) sc_show_square.nd rfl (by first | exact Or.inl rfl | exact Or.inr rfl))) (fun _ _ _ _ _ => pts_nil) (fun _ _ _ _ _ => (pe_callTy c_str1 (by rfl) T.z_str (by decide +kernel) (pa_cons (pv 2) pa_nil)))))))))), ?_⟩
    clear hr
    obtain ⟨l, qs, nss, rfl, h1, hr, hf, k⟩ := h
    refine st_eq (σ' := [some _, none, none]) rfl ?_
    have ql := hr.len
    show "go"
    refine lc_fun (rowOf H) (by show "hq") (by rw [List.length_map]; have := hf.1; omega) ?_ ?_
    · intro v hv H1 s1 R kR
      obtain ⟨i, hi, e⟩ := List.getElem_of_mem hv
      rw [List.getElem_map] at e
      have hi2 : i < qs.length := by rw [List.length_map] at hi; exact hi
      obtain ⟨ns, hns, hq⟩ := hr.at_ (List.getElem?_eq_getElem hi2)
      subst e
      rw [rowOf_at hq] at kR
      have fn := hf.2 ns (List.mem_of_getElem? hns)
      have hq1 := s1 _ _ hq
      show "go"
      refine lc_fun txOf (by show "hq") (by rw [List.length_map]; omega) ?_ ?_
      · intro w hw H2 s2 R2 kR2
        obtain ⟨z, hz, rfl⟩ := List.mem_map.mp hw
        have zz : Sz 1900 z := Sz.mono (Sz.mk (Nat.lt_of_lt_of_le (fn.2 z hz) (by decide)) : Sz 210 _) (by decide)
        show "go"
        exact kR2 _ (Same.refl _)
      · intro D HD fD sD hD
        rw [tx_fm] at hD
        show "go"
        refine o_join hD rfl (Nat.le_trans (row_cost2 fn.1 fn.2) (by decide)) ?_
        show "go"
        exact kR _ (by show "same")
    · intro D HD fD sD hD
      rw [rows_fm hr] at hD
      show "go"
      refine o_join hD rfl (Nat.le_trans (rows_cost2 hf) (by decide)) ?_
      show "go"
      exact k _ (by show "same")
/-! #### _law_long_right: 0 well, 1 wide, 2 many, 3 rows, 4 text, 5 told, 6 turn, 7 again, 8 row, 9 number -/
def sp__law_long_right (T : Txt K mg) : Sp := fun vs H Q _ => ∃ (p : Addr) (x y : Int), vs = [.ref p] ∧ (H p = some (.lst [.int x, .int y])) ∧ (0 ≤ x) ∧ (0 ≤ y) ∧ (y < 10 ^ 12) ∧ ∀ H', SB p H H' → Q (.bl true) H'
theorem len__law_long_right {vs H Q E} (T : Txt K mg) (h : sp__law_long_right T vs H Q E) : vs.length = 1 := by obtain ⟨p, x, y, rfl, _⟩ := h; rfl
theorem use__law_long_right {T : Txt K mg} {H : Hp} {Q : VK} {E : XK} {p : Addr} {x y : Int} (h1 : H p = some (.lst [.int x, .int y])) (x0 : 0 ≤ x) (y0 : 0 ≤ y) (y1 : y < 10 ^ 12) (k : ∀ H', SB p H H' → Q (.bl true) H') : sp__law_long_right T [.ref p] H Q E := ⟨p, x, y, rfl, h1, x0, y0, y1, k⟩
local macro_rules | `(tactic| show "own") => `(tactic| (((with_reducible refine' use__law_long_right ?s1 ?s2 ?s3 ?s4 ?nxt); (case s1 => (show "hp")); (case s2 => (assumption)); (case s3 => (assumption)); (case s4 => (assumption)); (case' nxt => skip)); intro _ _))

theorem ok__law_long_right (T : Txt K mg) : FnOk P w K mg base CX0 4 T.f__law_long_right T.fd__law_long_right ["well"] (sp__law_long_right T) := by
  have G__law_dip : FnOk P w K mg base CX0 1 T.f__law_dip T.fd__law_dip ["well", "many"] (sp__law_dip T) := ok__law_dip T
  have G__law_integers : FnOk P w K mg base CX0 1 T.f__law_integers T.fd__law_integers ["told"] (sp__law_integers T) := ok__law_integers T
  have G_read_square : FnOk P w K mg base (L2.CX P w) 3 T.f_read_square T.fd_read_square ["text"] (sp_read_square T) := ok_read_square T
  have G_show_square : FnOk P w K mg base CX0 1 T.f_show_square T.fd_show_square ["rows"] (sp_show_square T) := ok_show_square T
  refine T.F__law_long_right.ok sc__law_long_right (fun vs H Q E h => ?_) (fun cdv A outer s H vs Q E hr h => ?_)
  · exact len__law_long_right T h
  · refine ⟨_, (pss_cons (ps_asg (pe_tup (pa_cons (pe_op (op_addK (K := K) rfl) pe_int (pe_call G__law_dip (hr.mono (by decide)) rfl T.g__law_dip T.F__law_dip.kp T.b__law_dip .nil pass0 (pa_cons (pv 0) (pa_cons pe_int pa_nil)))) (pa_cons (pe_op (op_addK (K := K) rfl) pe_int (pe_call G__law_dip (hr.mono (by decide)) rfl T.g__law_dip T.F__law_dip.kp T.b__law_dip .nil pass0 (pa_cons (pv 0) (pa_cons pe_int pa_nil)))) pa_nil))) (pg_tlK (K := K) rfl rfl (pgs_cons (pg_name (i := 1) sc__law_long_right.nd rfl (Or.inr rfl)) (pgs_cons (pg_name (i := 2) sc__law_long_right.nd rfl (Or.inl rfl)) pgs_nil))))
    (pss_cons (ps_if (pt_cmpR (op_eqK (K := K) rfl hr.units) (pe_call G__law_dip (hr.mono (by decide)) rfl T.g__law_dip T.F__law_dip.kp T.b__law_dip .nil pass0 (pa_cons (pv 0) (pa_cons pe_int pa_nil))) pe_int (nomark _)) (pss_one (ps_asg (pe_tup (pa_cons (pe_op (op_addK (K := K) rfl) pe_int (pe_call G__law_dip (hr.mono (by decide)) rfl T.g__law_dip T.F__law_dip.kp T.b__law_dip .nil pass0 (pa_cons (pv 0) (pa_cons pe_int pa_nil)))) (pa_cons (pe_op (op_addK (K := K) rfl) pe_int (pe_call G__law_dip (hr.mono (by decide)) rfl T.g__law_dip T.F__law_dip.kp T.b__law_dip .nil pass0 (pa_cons (pv 0) (pa_cons pe_int pa_nil)))) pa_nil))) (pg_tlK (K := K) rfl rfl (pgs_cons (pg_name (i := 1) sc__law_long_right.nd rfl (Or.inr rfl)) (pgs_cons (pg_name (i := 2) sc__law_long_right.nd rfl (Or.inl rfl)) pgs_nil))))) pss_nil)
    (pss_cons (ps_setLc (i := 3) (own := [("turn", 6)]) rfl sc__law_long_right.nd rfl rfl (sw_true rfl rfl rfl (by decide +kernel)) (pi_range1 rfl T.z_range (pa_cons (pv 2) pa_nil)) (blkOk_by (own := [("turn", 6)]) (N := N__law_long_right) (sc := defScope s__law_long_right) (by first | decide +kernel | rfl)) (fun _ _ _ _ _ => (pg_name (i := 6) sc__law_long_right.nd rfl (by first | exact Or.inl rfl | exact Or.inr rfl))) (fun _ _ _ _ _ => pts_nil) (fun _ _ _ _ _ => (pe_lc (own := [("again", 7)]) rfl sc__law_long_right.nd (pi_range1 rfl T.z_range (pa_cons (pv 1) pa_nil)) (blkOk_by (own := [("again", 7)]) (N := N__law_long_right) (sc := _) (by first | decide +kernel | rfl)) (fun _ _ _ _ _ => (pg_name (i := 7) sc__law_long_right.nd rfl (by first | exact Or.inl rfl | exact Or.inr rfl))) (fun _ _ _ _ _ => pts_nil) (fun _ _ _ _ _ => (pe_op op_subU (pe_call G__law_dip (hr.mono (by decide)) rfl T.g__law_dip T.F__law_dip.kp T.b__law_dip .nil pass0 (pa_cons (pv 0) (pa_cons pe_int pa_nil))) pe_int)))))
    (pss_cons (ps_set (i := 4) sc__law_long_right.nd rfl (Or.inl rfl) (pe_joinK (K := K) rfl pe_str (pe_lc (own := [("row", 8)]) rfl sc__law_long_right.nd (pi_listK (K := K) rfl (pv 3)) (blkOk_by (own := [("row", 8)]) (N := N__law_long_right) (sc := defScope s__law_long_right) (by first | decide +kernel | rfl)) (fun _ _ _ _ _ => (pg_name (i := 8) sc__law_long_right.nd rfl (by first | exact Or.inl rfl | exact Or.inr rfl))) (fun _ _ _ _ _ => pts_nil) (fun _ _ _ _ _ => (pe_joinK (K := K) rfl pe_str (pe_lc (own := [("number", 9)]) rfl sc__law_long_right.nd (pi_listK (K := K) rfl (pv 8)) (blkOk_by (own := [("number", 9)]) (N := N__law_long_right) (sc := _) (by first | decide +kernel | rfl)) (fun _ _ _ _ _ => (pg_name (i := 9) sc__law_long_right.nd rfl (by first | exact Or.inl rfl | exact Or.inr rfl))) (fun _ _ _ _ _ => pts_nil) (fun _ _ _ _ _ => (pe_callTy c_str1 (by rfl) T.z_str (by decide +kernel) (pa_cons (pv 9) pa_nil)))))))))
    (pss_cons (ps_set (i := 5) sc__law_long_right.nd rfl (Or.inl rfl) (pe_call G_read_square (hr.mono (by decide)) rfl T.g_read_square T.F_read_square.kp T.b_read_square .nil (passes_call takes0 (fun _ _ _ _ h => h)) (pa_cons (pv 4) pa_nil)))
    (pss_cons (ps_if (PW.pt (pw_or (pt_not (ptTK (K := K) rfl (pe_callB (c_isiK (K := K) rfl) (by rfl) T.z_isinstance (by decide +kernel) (pa_cons (pv 5) (pa_cons (pe_bltn (v := .ty "list") (by rfl) T.z_list (by decide +kernel) rfl) pa_nil))) (by intro _; rfl))) (pw_or (pt_cmpR (op_neK (K := K) rfl hr.units) (pv 5) (pv 3) (nomark _)) (pw_or1 (pt_cmpR (op_neK (K := K) rfl hr.units) (pe_lc (own := [("row", 8)]) rfl sc__law_long_right.nd (pi_listK (K := K) rfl (pv 5)) (blkOk_by (own := [("row", 8)]) (N := N__law_long_right) (sc := defScope s__law_long_right) (by first | decide +kernel | rfl)) (fun _ _ _ _ _ => (pg_name (i := 8) sc__law_long_right.nd rfl (by first | exact Or.inl rfl | exact Or.inr rfl))) (fun _ _ _ _ _ => (pts_one (pt_not (ptTK (K := K) rfl (pe_call G__law_integers (hr.mono (by decide)) rfl T.g__law_integers T.F__law_integers.kp T.b__law_integers .nil pass0 (pa_cons (pv 8) pa_nil)) (by intro _; rfl))))) (fun _ _ _ _ _ => (pv 8))) (pe_lst pa_nil) (nomark _)))))) (pss_one (ps_ret pe_bl)) pss_nil)
    (pss_one (ps_ret (pe_cmpR (op_eqK (K := K) rfl hr.units) (pe_call G_show_square (hr.mono (by decide)) rfl T.g_show_square T.F_show_square.kp T.b_show_square .nil pass0 (pa_cons (pv 5) pa_nil)) (pv 4) (nomark _)))))))))), ?_⟩
    clear hr
    obtain ⟨p, x, y, rfl, h1, x0, y0, y1, k⟩ := h
    refine st_eq (σ' := [some _, none, none, none, none, none, none, none, none, none]) rfl ?_
    show "go"
    rename_i a xa ya Ha a0 a1 xa0 ya0 ya1 sa pa b xb yb Hb b0 b1 xb0 yb0 yb1 sb pb Tp HTp fTp sTp hTp c xc yc Hc c0 c1 xc0 yc0 yc1 sc pc
    have sw0 : Hld (SB p H Hc) := ⟨((sa.trans sb).trans (SB.of sTp)).trans sc⟩
    clear sa sb sc pa pb sTp fTp hTp
    refine ifs_2 (fun e => ?_) (fun e => ?_)
    · show "go"
      rename_i a2 xe ye He e0 e1 xe0 ye0 ye1 se pe f xf yf Hf f0 f1 xf0 yf0 yf1 sf pf Tq HTq fTq sTq hTq
      have sw : Hld (SB p H HTq) := ⟨((sw0.out.trans se).trans sf).trans (SB.of sTq)⟩
      have pw := sTq _ _ pf
      have xw0 := xf0
      have yw0 := yf0
      have yw1 := yf1
      clear sw0 se sf pe pc pf sTq fTq hTq
      show "go"
      refine lc_drawrows (fun ns => ns.length ≤ 200 ∧ ns ≠ [] ∧ ∀ z ∈ ns, z.natAbs < 10 ^ 3) (by omega) (by omega) ⟨pw, xw0, yw0, yw1⟩ ?_ ?_
      · rintro i x2 y2 H1 hi s1 ⟨hp1, x10, y10, y11⟩ Z kZ
        show "go"
        refine lc_draw (fun z => z.natAbs < 10 ^ 3) (by omega) (by omega) ⟨hp1, x10, y10, y11⟩ ?_ ?_
        · rintro j x3 y3 H2 hj s2 ⟨hp2, x20, y20, y21⟩ Z2 kZ2
          show "go"
          rename_i r x4 y4 H3 r0 r1 x40 y40 y41 s3 hp3
          exact kZ2 _ _ _ _ (by omega) s3 ⟨hp3, x40, y40, y41⟩
        · intro D ds x3 y3 H2 fD dl db s2 w2 hD
          show "go"
          exact kZ D ds x3 y3 H2 fD ⟨by omega, fun e => by rw [e] at dl; simp only [List.length_nil] at dl; omega, db⟩ s2 w2 hD
      intro D qs nss x2 y2 H1 fD nl nb rows fq s1 w1 hD
      have ql := rows.len
      have hf : Fin2 nss := ⟨by omega, fun ns m => ⟨(nb ns m).1, fun z hz => Nat.lt_of_lt_of_le ((nb ns m).2.2 z hz) (by decide)⟩⟩
      have hsl : (squareL nss).length ≤ 90000 := small_len (by omega) (fun ns m => (nb ns m).1) (fun ns m => (nb ns m).2.2)
      have back : readS (squareL nss) = some nss := readS_back (fun e => by rw [e] at nl; simp only [List.length_nil] at nl; omega) (fun ns m => (nb ns m).2.1) (fun ns m z hz => Nat.lt_of_lt_of_le ((nb ns m).2.2 z hz) (by decide))
      have sw1 : Hld (SB p H H1) := ⟨sw.out.trans s1⟩
      clear sw s1 nb fD fq w1 pw
      show "go"
      refine lc_fun (rowOf H1) (by show "hq") (by rw [List.length_map]; omega) ?_ ?_
      · intro v hv H2 s2 R kR
        obtain ⟨i, hi, e⟩ := List.getElem_of_mem hv
        rw [List.getElem_map] at e
        have hi2 : i < qs.length := by rw [List.length_map] at hi; exact hi
        obtain ⟨ns, hns, hq⟩ := rows.at_ (List.getElem?_eq_getElem hi2)
        subst e
        rw [rowOf_at hq] at kR
        have fn := hf.2 ns (List.mem_of_getElem? hns)
        have hq1 := s2 _ _ hq
        show "go"
        refine lc_fun txOf (by show "hq") (by rw [List.length_map]; omega) ?_ ?_
        · intro w hw H3 s3 R2 kR2
          obtain ⟨z, hz, rfl⟩ := List.mem_map.mp hw
          have zz : Sz 1900 z := Sz.mono (Sz.mk (Nat.lt_of_lt_of_le (fn.2 z hz) (by decide)) : Sz 210 _) (by decide)
          show "go"
          exact kR2 _ (Same.refl _)
        · intro D3 HD3 fD3 sD3 hD3
          rw [tx_fm] at hD3
          show "go"
          refine o_join hD3 rfl (Nat.le_trans (row_cost2 fn.1 fn.2) (by decide)) ?_
          show "go"
          exact kR _ (by show "same")
      intro D2 H2 fD2 s2 hD2
      rw [rows_fm rows] at hD2
      show "go"
      refine o_join hD2 rfl (Nat.le_trans (rows_cost2 hf) (by decide)) ?_
      show "go"
      refine ⟨squareL nss, by rw [← rowsTx_S]; rfl, hsl, fun e => ?_, fun nss2 e D3 qs3 H3 f3 s3 rows3 nd3 nm3 fq3 hD3 => ?_⟩
      · rw [back] at e; cases e
      rw [back] at e
      obtain rfl : nss = nss2 := Option.some.inj e
      have rows4 := (rows.same s2).same s3
      have hD4 := s3 _ _ (s2 _ _ hD)
      have ql3 := rows3.len
      clear rows fD2 hD2 back e
      show "go"
      refine Or.inr ?_
      refine o_ned (Dp.lst (SqL.of hD3) (rows_dp rows3)) (Dp.lst (SqL.of hD4) (rows_dp rows4)) (shaped_rows nss) ?_
      show "go"
      refine lc_fun (fun _ => none) (by show "hq") (by rw [List.length_map]; omega) ?_ ?_
      · intro v hv H5 s5 R kR
        obtain ⟨q, m, rfl⟩ := List.mem_map.mp hv
        obtain ⟨ns, hq⟩ := rows_mem rows3 q m
        have hq5 := s5 _ _ hq
        show "go"
        exact kR _ (by show "same")
      intro D6 H6 f6 s6 h6
      have h7 : H6 D6 = some (.lst (([] : List Int).map V.int)) := by rw [h6]; simp
      clear h6
      show "go"
      refine use_show_square (by show "hp") (rows3.same (by show "same")) hf ?_
      intro H8 s8
      show "go"
      exact q_y rfl (k _ (SB.trans sw1.out (SB.of (by show "same"))))
    · have sw := sw0
      have pw := pc
      have xw0 := xc0
      have yw0 := yc0
      have yw1 := yc1
      clear sw0 pc
      show "go"
      refine lc_drawrows (fun ns => ns.length ≤ 200 ∧ ns ≠ [] ∧ ∀ z ∈ ns, z.natAbs < 10 ^ 3) (by omega) (by omega) ⟨pw, xw0, yw0, yw1⟩ ?_ ?_
      · rintro i x2 y2 H1 hi s1 ⟨hp1, x10, y10, y11⟩ Z kZ
        show "go"
        refine lc_draw (fun z => z.natAbs < 10 ^ 3) (by omega) (by omega) ⟨hp1, x10, y10, y11⟩ ?_ ?_
        · rintro j x3 y3 H2 hj s2 ⟨hp2, x20, y20, y21⟩ Z2 kZ2
          show "go"
          rename_i r x4 y4 H3 r0 r1 x40 y40 y41 s3 hp3
          exact kZ2 _ _ _ _ (by omega) s3 ⟨hp3, x40, y40, y41⟩
        · intro D ds x3 y3 H2 fD dl db s2 w2 hD
          show "go"
          exact kZ D ds x3 y3 H2 fD ⟨by omega, fun e => by rw [e] at dl; simp only [List.length_nil] at dl; omega, db⟩ s2 w2 hD
      intro D qs nss x2 y2 H1 fD nl nb rows fq s1 w1 hD
      have ql := rows.len
      have hf : Fin2 nss := ⟨by omega, fun ns m => ⟨(nb ns m).1, fun z hz => Nat.lt_of_lt_of_le ((nb ns m).2.2 z hz) (by decide)⟩⟩
      have hsl : (squareL nss).length ≤ 90000 := small_len (by omega) (fun ns m => (nb ns m).1) (fun ns m => (nb ns m).2.2)
      have back : readS (squareL nss) = some nss := readS_back (fun e => by rw [e] at nl; simp only [List.length_nil] at nl; omega) (fun ns m => (nb ns m).2.1) (fun ns m z hz => Nat.lt_of_lt_of_le ((nb ns m).2.2 z hz) (by decide))
      have sw1 : Hld (SB p H H1) := ⟨sw.out.trans s1⟩
      clear sw s1 nb fD fq w1 pw
      show "go"
      refine lc_fun (rowOf H1) (by show "hq") (by rw [List.length_map]; omega) ?_ ?_
      · intro v hv H2 s2 R kR
        obtain ⟨i, hi, e⟩ := List.getElem_of_mem hv
        rw [List.getElem_map] at e
        have hi2 : i < qs.length := by rw [List.length_map] at hi; exact hi
        obtain ⟨ns, hns, hq⟩ := rows.at_ (List.getElem?_eq_getElem hi2)
        subst e
        rw [rowOf_at hq] at kR
        have fn := hf.2 ns (List.mem_of_getElem? hns)
        have hq1 := s2 _ _ hq
        show "go"
        refine lc_fun txOf (by show "hq") (by rw [List.length_map]; omega) ?_ ?_
        · intro w hw H3 s3 R2 kR2
          obtain ⟨z, hz, rfl⟩ := List.mem_map.mp hw
          have zz : Sz 1900 z := Sz.mono (Sz.mk (Nat.lt_of_lt_of_le (fn.2 z hz) (by decide)) : Sz 210 _) (by decide)
          show "go"
          exact kR2 _ (Same.refl _)
        · intro D3 HD3 fD3 sD3 hD3
          rw [tx_fm] at hD3
          show "go"
          refine o_join hD3 rfl (Nat.le_trans (row_cost2 fn.1 fn.2) (by decide)) ?_
          show "go"
          exact kR _ (by show "same")
      intro D2 H2 fD2 s2 hD2
      rw [rows_fm rows] at hD2
      show "go"
      refine o_join hD2 rfl (Nat.le_trans (rows_cost2 hf) (by decide)) ?_
      show "go"
      refine ⟨squareL nss, by rw [← rowsTx_S]; rfl, hsl, fun e => ?_, fun nss2 e D3 qs3 H3 f3 s3 rows3 nd3 nm3 fq3 hD3 => ?_⟩
      · rw [back] at e; cases e
      rw [back] at e
      obtain rfl : nss = nss2 := Option.some.inj e
      have rows4 := (rows.same s2).same s3
      have hD4 := s3 _ _ (s2 _ _ hD)
      have ql3 := rows3.len
      clear rows fD2 hD2 back e
      show "go"
      refine Or.inr ?_
      refine o_ned (Dp.lst (SqL.of hD3) (rows_dp rows3)) (Dp.lst (SqL.of hD4) (rows_dp rows4)) (shaped_rows nss) ?_
      show "go"
      refine lc_fun (fun _ => none) (by show "hq") (by rw [List.length_map]; omega) ?_ ?_
      · intro v hv H5 s5 R kR
        obtain ⟨q, m, rfl⟩ := List.mem_map.mp hv
        obtain ⟨ns, hq⟩ := rows_mem rows3 q m
        have hq5 := s5 _ _ hq
        show "go"
        exact kR _ (by show "same")
      intro D6 H6 f6 s6 h6
      have h7 : H6 D6 = some (.lst (([] : List Int).map V.int)) := by rw [h6]; simp
      clear h6
      show "go"
      refine use_show_square (by show "hp") (rows3.same (by show "same")) hf ?_
      intro H8 s8
      show "go"
      exact q_y rfl (k _ (SB.trans sw1.out (SB.of (by show "same"))))
/-! #### _law_base: 0 text, 1 told, 2 e -/
def sp__law_base (T : Txt K mg) : Sp := fun vs H Q _ => ∃ (l : List Nat), vs = [.str (S l)] ∧ (l.length ≤ 90000) ∧ (readS l = none) ∧ ∀ R H', Same H H' → H' R = some (.lst [.str "refused", .str (S l)]) → Q (.ref R) H'
theorem len__law_base {vs H Q E} (T : Txt K mg) (h : sp__law_base T vs H Q E) : vs.length = 1 := by obtain ⟨l, rfl, _⟩ := h; rfl
theorem use__law_base {T : Txt K mg} {H : Hp} {Q : VK} {E : XK} {l : List Nat} (hl : l.length ≤ 90000) (hn : readS l = none) (k : ∀ R H', Same H H' → H' R = some (.lst [.str "refused", .str (S l)]) → Q (.ref R) H') : sp__law_base T [.str (S l)] H Q E := ⟨l, rfl, hl, hn, k⟩
local macro_rules | `(tactic| show "own") => `(tactic| (((with_reducible refine' use__law_base ?s1 ?s2 ?nxt); (case s1 => (omega)); (case s2 => (assumption)); (case' nxt => skip)); intro _ _ _ _))

theorem ok__law_base (T : Txt K mg) : FnOk P w K mg base CX0 4 T.f__law_base T.fd__law_base ["text"] (sp__law_base T) := by
  have G_read_square : FnOk P w K mg base (L2.CX P w) 3 T.f_read_square T.fd_read_square ["text"] (sp_read_square T) := ok_read_square T
  refine T.F__law_base.ok sc__law_base (fun vs H Q E h => ?_) (fun cdv A outer s H vs Q E hr h => ?_)
  · exact len__law_base T h
  · refine ⟨_, (pss_cons (ps_set (i := 1) sc__law_base.nd rfl (Or.inl rfl) (pe_lst (pa_cons pe_str pa_nil)))
    (pss_cons (ps_tryA (i := 2) rfl rfl sc__law_base.nd rfl rfl takes0 (by intro W pn xe tk po; apply pss_eq; exact (pss_one (ps_expr (pe_callS G_read_square (hr.mono (by decide)) rfl T.g_read_square T.F_read_square.kp T.b_read_square (fun σ => passAt tk σ) (pa_cons (pv 0) pa_nil)))); rfl) (.cons ⟨rfl, by decide, Or.inl T.gC_SquareError⟩ (by intro a oe cls d pn hz hf; apply pss_eq; exact (pss_one (ps_set (i := 1) sc__law_base.nd rfl (Or.inl rfl) (pe_lst (pa_cons pe_str (pa_cons (pe_xd (K := K) rfl hz hf (pv 2)) pa_nil))))); rfl) .nil))
    (pss_one (ps_ret (pv 1))))), ?_⟩
    clear hr
    obtain ⟨l, rfl, hl, hn, k⟩ := h
    refine st_eq (σ' := [some _, none, none]) rfl ?_
    have er_Unreadable := T.er_Unreadable
    have vn_Unreadable := T.vn_Unreadable
    have kv_Unreadable := T.kv_Unreadable
    show "go"
    rename_i P HP fP sP hP
    refine ⟨l, rfl, hl, fun e dd H1 s1 h1 => ?_, fun nss e => ?_⟩
    · refine we_at ?_
      refine wm_yes T.em_Unreadable_SquareError fun z hz => ?_
      show "go"
      rename_i L HL fL sL hL
      exact k L HL (by show "same") hL
    · rw [hn] at e
      cases e
/-! #### _law_read: 0 text, 1 told, 2 e -/
def sp__law_read (T : Txt K mg) : Sp := fun vs H Q _ => ∃ (l : List Nat), vs = [.str (S l)] ∧ (l.length ≤ 90000) ∧ ∀ R H', Fr H R → Same H H' → ((readS l = none ∧ H' R = some (.lst [.str "refused", .str (S l)])) ∨ (∃ nss D qs, readS l = some nss ∧ H' R = some (.lst [.str "rows", .ref D]) ∧ Fr H D ∧ Rows H' qs nss ∧ qs.Nodup ∧ D ∉ qs ∧ (∀ q ∈ qs, Fr H q) ∧ H' D = some (.lst (qs.map V.ref)))) → Q (.ref R) H'
theorem len__law_read {vs H Q E} (T : Txt K mg) (h : sp__law_read T vs H Q E) : vs.length = 1 := by obtain ⟨l, rfl, _⟩ := h; rfl
theorem use__law_read {T : Txt K mg} {H : Hp} {Q : VK} {E : XK} {l : List Nat} (hl : l.length ≤ 90000) (k : ∀ R H', Fr H R → Same H H' → ((readS l = none ∧ H' R = some (.lst [.str "refused", .str (S l)])) ∨ (∃ nss D qs, readS l = some nss ∧ H' R = some (.lst [.str "rows", .ref D]) ∧ Fr H D ∧ Rows H' qs nss ∧ qs.Nodup ∧ D ∉ qs ∧ (∀ q ∈ qs, Fr H q) ∧ H' D = some (.lst (qs.map V.ref)))) → Q (.ref R) H') : sp__law_read T [.str (S l)] H Q E := ⟨l, rfl, hl, k⟩
local macro_rules | `(tactic| show "own") => `(tactic| (((with_reducible refine' use__law_read ?s1 ?nxt); (case s1 => (omega)); (case' nxt => skip)); intro _ _ _ _ _))

theorem ok__law_read (T : Txt K mg) : FnOk P w K mg base CX0 4 T.f__law_read T.fd__law_read ["text"] (sp__law_read T) := by
  have G_read_square : FnOk P w K mg base (L2.CX P w) 3 T.f_read_square T.fd_read_square ["text"] (sp_read_square T) := ok_read_square T
  refine T.F__law_read.ok sc__law_read (fun vs H Q E h => ?_) (fun cdv A outer s H vs Q E hr h => ?_)
  · exact len__law_read T h
  · refine ⟨_, (pss_cons (ps_set (i := 1) sc__law_read.nd rfl (Or.inl rfl) (pe_lst (pa_cons pe_str pa_nil)))
    (pss_cons (ps_tryA (i := 2) rfl rfl sc__law_read.nd rfl rfl takes0 (by intro W pn xe tk po; apply pss_eq; exact (pss_one (ps_set (i := 1) sc__law_read.nd rfl (Or.inl rfl) (pe_lst (pa_cons pe_str (pa_cons (pe_callS G_read_square (hr.mono (by decide)) rfl T.g_read_square T.F_read_square.kp T.b_read_square (fun σ => passAt tk σ) (pa_cons (pv 0) pa_nil)) pa_nil))))); rfl) (.cons ⟨rfl, by decide, Or.inl T.gC_Unreadable⟩ (by intro a oe cls d pn hz hf; apply pss_eq; exact (pss_one (ps_set (i := 1) sc__law_read.nd rfl (Or.inl rfl) (pe_lst (pa_cons pe_str (pa_cons (pe_xd (K := K) rfl hz hf (pv 2)) pa_nil))))); rfl) .nil))
    (pss_one (ps_ret (pv 1))))), ?_⟩
    clear hr
    obtain ⟨l, rfl, hl, k⟩ := h
    refine st_eq (σ' := [some _, none, none]) rfl ?_
    have er_Unreadable := T.er_Unreadable
    have vn_Unreadable := T.vn_Unreadable
    have kv_Unreadable := T.kv_Unreadable
    show "go"
    rename_i P HP fP sP hP
    refine ⟨l, rfl, hl, fun e dd H1 s1 h1 => ?_, fun nss e D qs H1 f1 s1 rows nd nm fq hD => ?_⟩
    · refine we_at ?_
      refine wm_yes T.em_Unreadable_Unreadable fun z hz => ?_
      show "go"
      rename_i L HL fL sL hL
      exact k L HL ⟨Same.back (sP.trans s1) fL.out⟩ (by show "same") (.inl ⟨e, hL⟩)
    · show "go"
      rename_i L HL fL sL hL
      exact k L HL ⟨Same.back (sP.trans s1) fL.out⟩ (by show "same") (.inr ⟨nss, D, qs, e, hL, ⟨Same.back sP f1.out⟩, rows.same sL, nd, nm, fun q m => ⟨Same.back sP (fq q m).out⟩, sL _ _ hD⟩)
/-! #### _law_word: 0 word, 1 digits, 2 sign -/
def sp__law_word (T : Txt K mg) : Sp := fun vs H Q _ => ∃ (l : List Nat), vs = [.str (S l)] ∧ (l.length ≤ 100000) ∧ (∀ c ∈ l, c < 1114112) ∧ ∀ H', Same H H' → Q (numV (numI l)) H'
theorem len__law_word {vs H Q E} (T : Txt K mg) (h : sp__law_word T vs H Q E) : vs.length = 1 := by obtain ⟨l, rfl, _⟩ := h; rfl
theorem use__law_word {T : Txt K mg} {H : Hp} {Q : VK} {E : XK} {l : List Nat} (hl : l.length ≤ 100000) (hk : ∀ c ∈ l, c < 1114112) (k : ∀ H', Same H H' → Q (numV (numI l)) H') : sp__law_word T [.str (S l)] H Q E := ⟨l, rfl, hl, hk, k⟩
local macro_rules | `(tactic| show "own") => `(tactic| (((with_reducible refine' use__law_word ?s1 ?s2 ?nxt); (case s1 => (omega)); (case s2 => (assumption)); (case' nxt => skip)); intro _ _))

theorem ok__law_word (T : Txt K mg) : FnOk P w K mg base CX0 1 T.f__law_word T.fd__law_word ["word"] (sp__law_word T) := by
  refine T.F__law_word.ok sc__law_word (fun vs H Q E h => ?_) (fun cdv A outer s H vs Q E hr h => ?_)
  · exact len__law_word T h
  · refine ⟨_, (pss_cons (ps_set (i := 1) sc__law_word.nd rfl (Or.inl rfl) (pv 0))
    (pss_cons (ps_if (pt_cmpR (op_eqK (K := K) rfl hr.units) (pe_slice (C8.sl_txt) (pv 0) po_none (po_some pe_int)) pe_str (nomark _)) (pss_one (ps_set (i := 1) sc__law_word.nd rfl (Or.inl rfl) (pe_slice (C8.sl_txt) (pv 0) (po_some pe_int) po_none))) pss_nil)
    (pss_cons (ps_if (PW.pt (pw_or (pt_cmpR (op_eqK (K := K) rfl hr.units) (pv 1) pe_str (nomark _)) (pw_or (pt_cmpR op_gtU (pe_callB c_lenS (by rfl) T.z_len (by decide +kernel) (pa_cons (pv 1) pa_nil)) pe_int (nomark _)) (pw_or1 (pt_cmpR (op_neK (K := K) rfl hr.units) (pe_lc (own := [("sign", 2)]) rfl sc__law_word.nd (pi_str (pv 1)) (blkOk_by (own := [("sign", 2)]) (N := N__law_word) (sc := defScope s__law_word) (by first | decide +kernel | rfl)) (fun _ _ _ _ _ => (pg_name (i := 2) sc__law_word.nd rfl (by first | exact Or.inl rfl | exact Or.inr rfl))) (fun _ _ _ _ _ => (pts_one (pt_cmpR op_ninS (pv 2) pe_str (by rfl)))) (fun _ _ _ _ _ => (pv 2))) (pe_lst pa_nil) (nomark _)))))) (pss_one (ps_ret pe_non)) pss_nil)
    (pss_cons (ps_if (PW.pt (pw_and (pt_cmpR (op_eqK (K := K) rfl hr.units) (pe_ix (ix_seqK (K := K) rfl) (pv 1) pe_int (fun _ _ => rfl)) pe_str (nomark _)) (pw_and1 (pt_cmpR (op_neK (K := K) rfl hr.units) (pv 0) pe_str (nomark _))))) (pss_one (ps_ret pe_non)) pss_nil)
    (pss_one (ps_ret (pe_callTy c_intS (by rfl) T.z_int (by decide +kernel) (pa_cons (pv 0) pa_nil)))))))), ?_⟩
    clear hr
    obtain ⟨l, rfl, hl, hk, k⟩ := h
    refine st_eq (σ' := [some _, none, none]) rfl ?_
    by_cases c : l.head? = some 45
    · obtain ⟨t, rfl⟩ : ∃ t, l = 45 :: t := by
        cases l with
        | nil => cases c
        | cons a r => cases c; exact ⟨r, rfl⟩
      rw [List.length_cons] at hl
      have hkt : ∀ c ∈ t, c < 1114112 := fun c m => hk c (List.mem_cons_of_mem _ m)
      have e1 : Txt.slice (S (45 :: t)) none (some 1) = S [45] := SX.slice_to (a := 45 :: t) (i := 1) (by decide)
      have e2 : Txt.slice (S (45 :: t)) (some 1) none = S t := SX.slice_from (a := 45 :: t) (i := 1) (by decide)
      have a1 : S [45] = ("-" : Str) := rfl
      have e8 : ¬ (S (45 :: t) = ("0" : Str)) := fun e => by
        have := SX.S_inj (b := [48]) e
        cases this
      have en : numI (45 :: t) = if digL t = true ∧ t.length ≤ 60 ∧ t.head? ≠ some 48 then some (-((NumText.digitsVal t : Nat) : Int)) else none := by
        unfold numI
        rw [if_pos c]
        rfl
      rw [en] at k
      by_cases t0 : t = []
      · have t1 : S t = ("" : Str) := by rw [t0]; rfl
        rw [if_neg (fun q => dig_ne q.1 t0)] at k
        show "go"
        exact k _ (by show "same")
      · have t1 : ¬ (S t = ("" : Str)) := fun e => t0 (SX.S_inj (b := []) e)
        by_cases z : t.length ≤ 60
        · show "go"
          refine lcs_fun dgF (by omega) ?_ ?_
          · intro c hc H1 s1 R kR
            by_cases cc : 48 ≤ c ∧ c ≤ 57
            · rw [show dgF c = none from if_pos cc] at kR
              show "go"
              exact kR _ (Same.refl _)
            · rw [show dgF c = some (.str (S [c])) from if_neg cc] at kR
              show "go"
              exact kR _ (Same.refl _)
          intro D HD fD sD hD
          by_cases d : digL t = true
          · rw [dgF_nil d] at hD
            obtain ⟨c0, r, rfl⟩ : ∃ c0 r, t = c0 :: r := by
              cases t with
              | nil => exact absurd rfl t0
              | cons a r => exact ⟨a, r, rfl⟩
            have lr : r.length ≤ 1000 := by rw [List.length_cons] at z; omega
            by_cases y : c0 = 48
            · subst y
              have a2 : S [48] = ("0" : Str) := rfl
              rw [if_neg (fun q => q.2.2 rfl)] at k
              show "go"
              exact k _ (by show "same")
            · have a2 : ¬ (S [c0] = ("0" : Str)) := fun e => y (List.cons.inj (SX.S_inj (b := [48]) e)).1
              have e6 := int_neg d z
              rw [if_pos ⟨d, z, fun e => y (Option.some.inj e)⟩] at k
              show "go"
              exact k _ (by show "same")
          · obtain ⟨x, xs, e, ho⟩ := dgF_some t0 d hkt
            rw [e] at hD
            rw [if_neg (fun q => d q.1)] at k
            show "go"
            rename_i E HE fE sE hE
            refine Or.inr ?_
            refine o_nstr (by show "hp") ho hE ?_
            show "go"
            exact k _ (by show "same")
        · rw [if_neg (fun q => z q.2.1)] at k
          show "go"
          exact k _ (by show "same")
    · have hkt := hk
      have e1 : Txt.slice (S l) none (some 1) = S (l.take 1) := SX.slice_to (a := l) (i := 1) (by decide)
      have a1 : ¬ (S (l.take 1) = ("-" : Str)) := fun e => by
        have h : l.take 1 = [45] := SX.S_inj (b := [45]) e
        cases l with
        | nil => cases h
        | cons a r => exact c (by rw [show a = 45 from (List.cons.inj h).1]; rfl)
      have en : numI l = if digL l = true ∧ l.length ≤ 60 ∧ (l.head? = some 48 → l = [48]) then some ((NumText.digitsVal l : Nat) : Int) else none := by
        unfold numI
        rw [if_neg c]
      rw [en] at k
      by_cases t0 : l = []
      · have t1 : S l = ("" : Str) := by rw [t0]; rfl
        rw [if_neg (fun q => dig_ne q.1 t0)] at k
        show "go"
        exact k _ (by show "same")
      · have t1 : ¬ (S l = ("" : Str)) := fun e => t0 (SX.S_inj (b := []) e)
        by_cases z : l.length ≤ 60
        · show "go"
          refine lcs_fun dgF (by omega) ?_ ?_
          · intro c hc H1 s1 R kR
            by_cases cc : 48 ≤ c ∧ c ≤ 57
            · rw [show dgF c = none from if_pos cc] at kR
              show "go"
              exact kR _ (Same.refl _)
            · rw [show dgF c = some (.str (S [c])) from if_neg cc] at kR
              show "go"
              exact kR _ (Same.refl _)
          intro D HD fD sD hD
          by_cases d : digL l = true
          · rw [dgF_nil d] at hD
            obtain ⟨c0, r, rfl⟩ : ∃ c0 r, l = c0 :: r := by
              cases l with
              | nil => exact absurd rfl t0
              | cons a r => exact ⟨a, r, rfl⟩
            have lr : r.length ≤ 1000 := by rw [List.length_cons] at z; omega
            have e6 := int_pos d z
            by_cases y : c0 = 48
            · subst y
              have a2 : S [48] = ("0" : Str) := rfl
              by_cases x : r = []
              · subst x
                have x2 : S (48 :: []) = ("0" : Str) := rfl
                rw [if_pos ⟨d, z, fun _ => rfl⟩] at k
                show "go"
                exact k _ (by show "same")
              · rw [if_neg (fun q => x (List.cons.inj (q.2.2 rfl)).2)] at k
                have x2 : ¬ (S (48 :: r) = ("0" : Str)) := fun e => x (List.cons.inj (SX.S_inj (b := [48]) e)).2
                show "go"
                exact k _ (by show "same")
            · have a2 : ¬ (S [c0] = ("0" : Str)) := fun e => y (List.cons.inj (SX.S_inj (b := [48]) e)).1
              rw [if_pos ⟨d, z, fun e => absurd (Option.some.inj e) y⟩] at k
              show "go"
              exact k _ (by show "same")
          · obtain ⟨x, xs, e, ho⟩ := dgF_some t0 d hkt
            rw [e] at hD
            rw [if_neg (fun q => d q.1)] at k
            show "go"
            rename_i E HE fE sE hE
            refine Or.inr ?_
            refine o_nstr (by show "hp") ho hE ?_
            show "go"
            exact k _ (by show "same")
        · rw [if_neg (fun q => z q.2.1)] at k
          show "go"
          exact k _ (by show "same")
/-! #### _law_words: 0 words, 1 found, 2 word, 3 one -/
def sp__law_words (T : Txt K mg) : Sp := fun vs H Q _ => ∃ (p : Addr) (ws : List (List Nat)), vs = [.ref p] ∧ (H p = some (.lst (ws.map strS))) ∧ (ws.length ≤ 100000) ∧ (∀ w ∈ ws, w.length ≤ 100000) ∧ (∀ w ∈ ws, ∀ c ∈ w, c < 1114112) ∧ ∀ v H', Same H H' → May ((seqO (ws.map numI)).map lstI) H H' v → Q v H'
theorem len__law_words {vs H Q E} (T : Txt K mg) (h : sp__law_words T vs H Q E) : vs.length = 1 := by obtain ⟨p, ws, rfl, _⟩ := h; rfl
theorem use__law_words {T : Txt K mg} {H : Hp} {Q : VK} {E : XK} {p : Addr} {ws : List (List Nat)} (h1 : H p = some (.lst (ws.map strS))) (hn : ws.length ≤ 100000) (hw : ∀ w ∈ ws, w.length ≤ 100000) (hc : ∀ w ∈ ws, ∀ c ∈ w, c < 1114112) (k : ∀ v H', Same H H' → May ((seqO (ws.map numI)).map lstI) H H' v → Q v H') : sp__law_words T [.ref p] H Q E := ⟨p, ws, rfl, h1, hn, hw, hc, k⟩
local macro_rules | `(tactic| show "own") => `(tactic| (((with_reducible refine' use__law_words ?s1 ?s2 ?s3 ?s4 ?nxt); (case s1 => (show "hp")); (case s2 => (omega)); (case s3 => (assumption)); (case s4 => (assumption)); (case' nxt => skip)); intro _ _ _ _))

theorem ok__law_words (T : Txt K mg) : FnOk P w K mg base CX0 2 T.f__law_words T.fd__law_words ["words"] (sp__law_words T) := by
  have G__law_word : FnOk P w K mg base CX0 1 T.f__law_word T.fd__law_word ["word"] (sp__law_word T) := ok__law_word T
  refine T.F__law_words.ok sc__law_words (fun vs H Q E h => ?_) (fun cdv A outer s H vs Q E hr h => ?_)
  · exact len__law_words T h
  · refine ⟨_, (pss_cons (ps_setLc (i := 1) (own := [("word", 2)]) rfl sc__law_words.nd rfl rfl (sw_true rfl rfl rfl (by decide +kernel)) (pi_listK (K := K) rfl (pv 0)) (blkOk_by (own := [("word", 2)]) (N := N__law_words) (sc := defScope s__law_words) (by first | decide +kernel | rfl)) (fun _ _ _ _ _ => (pg_name (i := 2) sc__law_words.nd rfl (by first | exact Or.inl rfl | exact Or.inr rfl))) (fun _ _ _ _ _ => pts_nil) (fun _ _ _ _ _ => (pe_call G__law_word (hr.mono (by decide)) rfl T.g__law_word T.F__law_word.kp T.b__law_word .nil pass0 (pa_cons (pv 2) pa_nil))))
    (pss_cons (ps_if (pt_cmpR (op_neK (K := K) rfl hr.units) (pe_lc (own := [("one", 3)]) rfl sc__law_words.nd (pi_listK (K := K) rfl (pv 1)) (blkOk_by (own := [("one", 3)]) (N := N__law_words) (sc := defScope s__law_words) (by first | decide +kernel | rfl)) (fun _ _ _ _ _ => (pg_name (i := 3) sc__law_words.nd rfl (by first | exact Or.inl rfl | exact Or.inr rfl))) (fun _ _ _ _ _ => (pts_one (pt_cmpR op_isU (pv 3) pe_non (nomark _)))) (fun _ _ _ _ _ => (pv 3))) (pe_lst pa_nil) (nomark _)) (pss_one (ps_ret pe_non)) pss_nil)
    (pss_one (ps_ret (pv 1))))), ?_⟩
    clear hr
    obtain ⟨p, ws, rfl, h1, hn, hw, hc, k⟩ := h
    refine st_eq (σ' := [some _, none, none, none]) rfl ?_
    show "go"
    refine lc_fun L3.wF (by show "hq") (by rw [List.length_map]; exact hn) ?_ ?_
    · intro x hx H1 s1 R kR
      obtain ⟨w, hw2, rfl⟩ := List.mem_map.mp hx
      have lw := hw w hw2
      have cw := hc w hw2
      have kR' : ∀ H2, Same H1 H2 → R (some (numV (numI w))) H2 := kR
      clear kR
      show "go"
      exact kR' _ (by show "same")
    intro D HD fD sD hD0
    have hD : HD D = some (.lst ((ws.map numI).map numV)) := by rw [hD0, fm_words]
    clear hD0
    show "go"
    refine lc_fun L3.nF (by show "hq") (by rw [List.length_map, List.length_map]; exact hn) ?_ ?_
    · intro x hx H1 s1 R kR
      by_cases xn : x = .non
      · subst xn
        have kR' : ∀ H2, Same H1 H2 → R (some .non) H2 := kR
        clear kR
        show "go"
        exact kR' _ (Same.refl _)
      · have kR' : ∀ H2, Same H1 H2 → R none H2 := by
          cases x <;> first | exact kR | exact absurd rfl xn
        clear kR
        show "go"
        exact kR' _ (Same.refl _)
    intro D2 HD2 fD2 sD2 hD2
    cases e : seqO (ws.map numI) with
    | none =>
      rw [e] at k
      obtain ⟨n, en⟩ := fm_nF1 e
      rw [en] at hD2
      show "go"
      rename_i E HE fE sE hE
      refine Or.inr ?_
      refine o_nnons (by show "hp") hE ?_
      show "go"
      exact k _ _ (by show "same") (.inr ⟨rfl, rfl⟩)
    | some l =>
      rw [e] at k
      rw [fm_nF0 e] at hD2
      rw [seqO_some e] at hD
      have hD3 : HD D = some (lstI l) := by
        rw [hD]
        show some (HO.lst _) = some (HO.lst _)
        rw [List.map_map]
        rfl
      have hD4 := sD2 _ _ hD3
      clear hD
      show "go"
      exact k _ _ (by show "same") (.inl ⟨D, _, rfl, rfl, fD, by show "hp"⟩)
/-! #### _law_square: 0 text, 1 rows, 2 row, 3 words -/
def sp__law_square (T : Txt K mg) : Sp := fun vs H Q _ => ∃ (l : List Nat), vs = [.str (S l)] ∧ (l.length ≤ 90000) ∧ (∀ c ∈ l, c < 1114112) ∧ ∀ v H', Same H H' → (readS l = none ∧ v = .non ∨ ∃ nss D qs, readS l = some nss ∧ v = .ref D ∧ Fr H D ∧ Rows H' qs nss ∧ H' D = some (.lst (qs.map V.ref))) → Q v H'
theorem len__law_square {vs H Q E} (T : Txt K mg) (h : sp__law_square T vs H Q E) : vs.length = 1 := by obtain ⟨l, rfl, _⟩ := h; rfl
theorem use__law_square {T : Txt K mg} {H : Hp} {Q : VK} {E : XK} {l : List Nat} (hl : l.length ≤ 90000) (hk : ∀ c ∈ l, c < 1114112) (k : ∀ v H', Same H H' → (readS l = none ∧ v = .non ∨ ∃ nss D qs, readS l = some nss ∧ v = .ref D ∧ Fr H D ∧ Rows H' qs nss ∧ H' D = some (.lst (qs.map V.ref))) → Q v H') : sp__law_square T [.str (S l)] H Q E := ⟨l, rfl, hl, hk, k⟩
local macro_rules | `(tactic| show "own") => `(tactic| (((with_reducible refine' use__law_square ?s1 ?s2 ?nxt); (case s1 => (omega)); (case s2 => (assumption)); (case' nxt => skip)); intro _ _ _ _))

theorem ok__law_square (T : Txt K mg) : FnOk P w K mg base CX0 3 T.f__law_square T.fd__law_square ["text"] (sp__law_square T) := by
  have G__law_words : FnOk P w K mg base CX0 2 T.f__law_words T.fd__law_words ["words"] (sp__law_words T) := ok__law_words T
  refine T.F__law_square.ok sc__law_square (fun vs H Q E h => ?_) (fun cdv A outer s H vs Q E hr h => ?_)
  · exact len__law_square T h
  · refine ⟨_, (pss_cons (ps_set (i := 1) sc__law_square.nd rfl (Or.inl rfl) (pe_lst pa_nil))
    (pss_cons (ps_for PassesOwn.never rfl (pi_listK (K := K) rfl (pe_sp (pv 0) pe_str)) (pg_name (i := 2) sc__law_square.nd rfl (Or.inl rfl)) (pss_cons (ps_set (i := 3) sc__law_square.nd rfl (Or.inl rfl) (pe_call G__law_words (hr.mono (by decide)) rfl T.g__law_words T.F__law_words.kp T.b__law_words .nil pass0 (pa_cons (pe_sp (pv 2) pe_str) pa_nil)))
    (pss_cons (ps_if (pt_cmpR op_isU (pv 3) pe_non (nomark _)) (pss_one (ps_ret pe_non)) pss_nil)
    (pss_one (ps_expr (pe_bmK (K := K) rfl PySem.F.plainAttrs_list PySem.F.slot_list_append PySem.F.type_list_append mt_append (pv 1) (pa_cons (pv 3) pa_nil)))))))
    (pss_one (ps_ret (pv 1))))), ?_⟩
    clear hr
    obtain ⟨l, rfl, hl, hk, k⟩ := h
    refine st_eq (σ' := [some _, none, none, none]) rfl ?_
    have mem : ∀ p ∈ TL.spl [59, 32] 0 [] l, p.length ≤ 90000 ∧ ∀ c ∈ p, c < 1114112 := fun p m => by
      obtain ⟨m1, m2⟩ := spl_mem _ _ _ _ _ m
      refine ⟨by rw [List.length_nil] at m1; omega, fun c hc => ?_⟩
      rcases m2 c hc with h | h
      · exact (List.not_mem_nil h).elim
      · exact hk c h
    have sp : Txt.split (S l) "; " = (TL.spl [59, 32] 0 [] l).map S := splitR l
    have np := spl_len [59, 32] l 0 []
    have er : readS l = seqO ((TL.spl [59, 32] 0 [] l).map rowI) := rfl
    generalize eP : TL.spl [59, 32] 0 [] l = P9 at *
    show "go"
    rename_i R HR fR sR hR p0 Hp0 f0 s0 h0
    have hR0 := s0 _ _ hR
    have Rp : R ≠ p0 := fun e => by rw [e, f0.out] at hR; cases hR
    have s00 : Same H Hp0 := sR.trans s0
    clear hR sR s0 f0
    refine f_list (xs := P9.map strS) (fun j σ' H' => ∃ nss qs v2 v3, seqO ((P9.take j).map rowI) = some nss ∧ Rows H' qs nss ∧ SB R Hp0 H' ∧ H' R = some (.lst (qs.map V.ref)) ∧ (∀ q ∈ qs, q ≠ R) ∧ σ' = [some (.str (S l)), some (.ref R), v2, v3]) (SqL.of h0) ⟨[], [], _, _, rfl, .nil, SB.refl _ _, hR0, fun q m => (List.not_mem_nil m).elim, rfl⟩ (fun j σ' H' _ ⟨_, _, _, _, _, _, sb, _⟩ => SqL.of (sb _ _ (fun e => Rp e.symm) h0)) ?_ ?_
    · rintro j v σ' H' hv ⟨nss, qs, v2, v3, es, rows, sb, hRq, nR, rfl⟩
      obtain ⟨w, hw, rfl⟩ := getS hv
      have hj : j < P9.length := (List.getElem?_eq_some_iff.mp hw).1
      have lw := (mem w (List.mem_of_getElem? hw)).1
      have cw := (mem w (List.mem_of_getElem? hw)).2
      have sw : Txt.split (S w) " " = (TL.spl [32] 0 [] w).map S := splitW w
      have mw : ∀ u ∈ TL.spl [32] 0 [] w, u.length ≤ 100000 := fun u m => by
        obtain ⟨m1, _⟩ := spl_mem _ _ _ _ _ m
        rw [List.length_nil] at m1
        omega
      have mc : ∀ u ∈ TL.spl [32] 0 [] w, ∀ c ∈ u, c < 1114112 := fun u m c hc => by
        obtain ⟨_, m2⟩ := spl_mem _ _ _ _ _ m
        rcases m2 c hc with h | h
        · exact (List.not_mem_nil h).elim
        · exact cw c h
      have nw := spl_len [32] w 0 []
      have nw2 : (TL.spl [32] 0 [] w).length ≤ 100000 := by omega
      have tk : (P9.take (j + 1)).map rowI = (P9.take j).map rowI ++ [rowI w] := by rw [List.take_add_one, hw, List.map_append]; rfl
      have nl : qs.length < 100000 := by
        rw [rows.len, seqO_len es, List.length_map, List.length_take]
        omega
      have hlen : (qs.map V.ref).length < sizeLine := by rw [List.length_map]; exact Nat.lt_trans nl (by decide)
      have sH : Hld (Same H H') := ⟨SB.same s00 fR sb⟩
      show "go"
      rename_i p2 H2 f2 s2 h2 v5 H5 s5 m5
      have m6 : May ((rowI w).map lstI) H2 H5 v5 := m5
      clear m5
      rcases m6 with ⟨q, u, eu, rfl, fq, hq⟩ | ⟨eu, rfl⟩
      · obtain ⟨ns, en⟩ : ∃ ns, rowI w = some ns := by
          cases e : rowI w with
          | none => rw [e] at eu; cases eu
          | some ns => exact ⟨ns, rfl⟩
        rw [en] at eu tk
        obtain rfl : lstI ns = u := Option.some.inj eu
        have hR5 : H5 R = some (.lst (qs.map V.ref)) := s5 _ _ (s2 _ _ hRq)
        have qR : q ≠ R := fun e => by
          have := s2 _ _ hRq
          rw [← e, fq.out] at this
          cases this
        show "go"
        rename_i H6 s6 h6
        refine ⟨nss ++ [ns], qs ++ [q], _, _, by rw [tk]; exact seqO_app es, Rows.snoc (s6 _ _ qR hq) (rows.imp fun q' m o h => s6 _ _ (nR q' m) (s5 _ _ (s2 _ _ h))), fun c o n h => s6 _ _ n (s5 _ _ (s2 _ _ (sb _ _ n h))), by rw [h6, List.map_append]; rfl, fun q' m => ?_, rfl⟩
        rcases List.mem_append.mp m with m | m
        · exact nR q' m
        · rw [List.mem_singleton.mp m]; exact qR
      · have en : rowI w = none := by
          cases e : rowI w with
          | none => rfl
          | some ns => rw [e] at eu; cases eu
        have e0 : readS l = none := by rw [er]; exact seqO_mem (List.mem_map.mpr ⟨w, List.mem_of_getElem? hw, en⟩)
        show "go"
        exact k _ _ ((sH.out.trans s2).trans s5) (.inl ⟨e0, rfl⟩)
    · rintro σ' H' ⟨nss, qs, v2, v3, es, rows, sb, hRq, nR, rfl⟩
      rw [List.length_map, List.take_length] at es
      show "go"
      exact k _ _ (SB.same s00 fR sb) (.inr ⟨nss, R, qs, er.trans es, rfl, fR, rows, hRq⟩)
/-! #### _law_right: 0 text, 1 due, 2 turn, 3 told, 4 at, 5 row -/
def sp__law_right (T : Txt K mg) : Sp := fun vs H Q _ => ∃ (l : List Nat), vs = [.str (S l)] ∧ (l.length ≤ 90000) ∧ (∀ c ∈ l, c < 1114112) ∧ ∀ H', Same H H' → Q (.bl true) H'
theorem len__law_right {vs H Q E} (T : Txt K mg) (h : sp__law_right T vs H Q E) : vs.length = 1 := by obtain ⟨l, rfl, _⟩ := h; rfl
theorem use__law_right {T : Txt K mg} {H : Hp} {Q : VK} {E : XK} {l : List Nat} (hl : l.length ≤ 90000) (hk : ∀ c ∈ l, c < 1114112) (k : ∀ H', Same H H' → Q (.bl true) H') : sp__law_right T [.str (S l)] H Q E := ⟨l, rfl, hl, hk, k⟩
local macro_rules | `(tactic| show "own") => `(tactic| (((with_reducible refine' use__law_right ?s1 ?s2 ?nxt); (case s1 => (omega)); (case s2 => (assumption)); (case' nxt => skip)); intro _ _))

theorem ok__law_right (T : Txt K mg) : FnOk P w K mg base CX0 5 T.f__law_right T.fd__law_right ["text"] (sp__law_right T) := by
  have G__law_base : FnOk P w K mg base CX0 4 T.f__law_base T.fd__law_base ["text"] (sp__law_base T) := ok__law_base T
  have G__law_integers : FnOk P w K mg base CX0 1 T.f__law_integers T.fd__law_integers ["told"] (sp__law_integers T) := ok__law_integers T
  have G__law_read : FnOk P w K mg base CX0 4 T.f__law_read T.fd__law_read ["text"] (sp__law_read T) := ok__law_read T
  have G__law_square : FnOk P w K mg base CX0 3 T.f__law_square T.fd__law_square ["text"] (sp__law_square T) := ok__law_square T
  refine T.F__law_right.ok sc__law_right (fun vs H Q E h => ?_) (fun cdv A outer s H vs Q E hr h => ?_)
  · exact len__law_right T h
  · refine ⟨_, (pss_cons (ps_set (i := 1) sc__law_right.nd rfl (Or.inl rfl) (pe_call G__law_square (hr.mono (by decide)) rfl T.g__law_square T.F__law_square.kp T.b__law_square .nil pass0 (pa_cons (pv 0) pa_nil)))
    (pss_cons (ps_if (pt_cmpR op_isU (pv 1) pe_non (nomark _)) (pss_one (ps_ret (pe_and (pe_cmpR (op_eqK (K := K) rfl hr.units) (pe_call G__law_read (hr.mono (by decide)) rfl T.g__law_read T.F__law_read.kp T.b__law_read .nil pass0 (pa_cons (pv 0) pa_nil)) (pe_lst (pa_cons pe_str (pa_cons (pv 0) pa_nil))) (nomark _)) (pe_one (pe_cmpR (op_eqK (K := K) rfl hr.units) (pe_call G__law_base (hr.mono (by decide)) rfl T.g__law_base T.F__law_base.kp T.b__law_base .nil pass0 (pa_cons (pv 0) pa_nil)) (pe_lst (pa_cons pe_str (pa_cons (pv 0) pa_nil))) (nomark _)))))) pss_nil)
    (pss_cons (ps_for PassesOwn.never rfl (pi_range1 rfl T.z_range (pa_cons pe_int pa_nil)) (pg_name (i := 2) sc__law_right.nd rfl (Or.inl rfl)) (pss_cons (ps_set (i := 3) sc__law_right.nd rfl (Or.inl rfl) (pe_call G__law_read (hr.mono (by decide)) rfl T.g__law_read T.F__law_read.kp T.b__law_read .nil pass0 (pa_cons (pv 0) pa_nil)))
    (pss_cons (ps_if (PW.pt (pw_or (pt_cmpR (op_neK (K := K) rfl hr.units) (pe_ix (ix_seqK (K := K) rfl) (pv 3) pe_int (fun _ _ => rfl)) pe_str (nomark _)) (pw_or (pt_not (ptTK (K := K) rfl (pe_callB (c_isiK (K := K) rfl) (by rfl) T.z_isinstance (by decide +kernel) (pa_cons (pe_ix (ix_seqK (K := K) rfl) (pv 3) pe_int (fun _ _ => rfl)) (pa_cons (pe_bltn (v := .ty "list") (by rfl) T.z_list (by decide +kernel) rfl) pa_nil))) (by intro _; rfl))) (pw_or1 (pt_cmpR (op_neK (K := K) rfl hr.units) (pe_ix (ix_seqK (K := K) rfl) (pv 3) pe_int (fun _ _ => rfl)) (pv 1) (nomark _)))))) (pss_one (ps_ret pe_bl)) pss_nil)
    (pss_cons (ps_for PassesOwn.never rfl (pi_range1 rfl T.z_range (pa_cons (pe_callB (c_lenK (K := K) rfl) (by rfl) T.z_len (by decide +kernel) (pa_cons (pv 1) pa_nil)) pa_nil)) (pg_name (i := 4) sc__law_right.nd rfl (Or.inl rfl)) (pss_cons (ps_set (i := 5) sc__law_right.nd rfl (Or.inl rfl) (pe_ix (ix_seqK (K := K) rfl) (pe_ix (ix_seqK (K := K) rfl) (pv 3) pe_int (fun _ _ => rfl)) (pv 4) (fun _ _ => rfl)))
    (pss_cons (ps_if (PW.pt (pw_or (pt_not (ptTK (K := K) rfl (pe_call G__law_integers (hr.mono (by decide)) rfl T.g__law_integers T.F__law_integers.kp T.b__law_integers .nil pass0 (pa_cons (pv 5) pa_nil)) (by intro _; rfl))) (pw_or1 (pt_cmpR (op_neK (K := K) rfl hr.units) (pv 5) (pe_ix (ix_seqK (K := K) rfl) (pv 1) (pv 4) (fun _ _ => rfl)) (nomark _))))) (pss_one (ps_ret pe_bl)) pss_nil)
    (pss_one (ps_expr (pe_bmK (K := K) rfl PySem.F.plainAttrs_list PySem.F.slot_list_append PySem.F.type_list_append mt_append (pv 5) (pa_cons pe_int pa_nil)))))))
    (pss_one (ps_expr (pe_bmK (K := K) rfl PySem.F.plainAttrs_list PySem.F.slot_list_append PySem.F.type_list_append mt_append (pe_ix (ix_seqK (K := K) rfl) (pv 3) pe_int (fun _ _ => rfl)) (pa_cons (pe_lst pa_nil) pa_nil))))))))
    (pss_one (ps_ret pe_bl))))), ?_⟩
    clear hr
    obtain ⟨l, rfl, hl, hk, k⟩ := h
    refine st_eq (σ' := [some _, none, none, none, none, none]) rfl ?_
    have okS : ∀ y ∈ [("refused" : Str), S l], PyData.strOk y = true := fun y m => by
      simp only [List.mem_cons, List.not_mem_nil, or_false] at m
      rcases m with rfl | rfl
      · decide +kernel
      · exact ok_S.mpr hk
    show "go"
    rename_i v0 H1 s1 w1
    rcases w1 with ⟨en, rfl⟩ | ⟨nss, D0, qs0, en, rfl, f0, rows0, hD0⟩
    · show "go"
      rename_i T1 HT1 fT1 sT1 wT1 L HL fL sL hL
      rcases wT1 with ⟨_, hT⟩ | ⟨_, _, _, e2, _⟩
      · have hT2 := sL _ _ hT
        refine Or.inr ?_
        refine o_eqstr (xs := ["refused", S l]) hT2 okS hL ?_
        show "go"
        rename_i B HB sB hB M HM fM sM hM
        have hB2 := sM _ _ hB
        refine Or.inr ?_
        refine o_eqstr (xs := ["refused", S l]) hB2 okS hM ?_
        show "go"
        exact k _ (by show "same")
      · rw [en] at e2; cases e2
    · have n0 : qs0.length = nss.length := rows0.len
      show "go"
      refine f_rng1 (fun i σ' H' => Same H1 H' ∧ ∃ v2 v3 v4 v5, σ' = [some (.str (S l)), some (.ref D0), v2, v3, v4, v5]) (by omega) (by omega) ⟨Same.refl _, _, _, _, _, rfl⟩ ?_ ?_
      · rintro i σ' H' hi ⟨s2, v2, v3, v4, v5, rfl⟩
        have sl0 := s2 _ _ hD0
        have rows1 := rows0.same s2
        show "go"
        rename_i T1 HT1 fT1 sT1 wT1
        rcases wT1 with ⟨e2, _⟩ | ⟨nss2, D, qs, e2, hT, fD, rows, nd, nm, fq, hD⟩
        · rw [en] at e2; cases e2
        rw [en] at e2
        obtain rfl : nss = nss2 := Option.some.inj e2
        clear e2
        have rows2 := rows1.same sT1
        have hD02 := sT1 _ _ sl0
        have fresh : ∀ c o, H' c = some o → c ∉ qs := fun c o h m => by rw [(fq c m).out] at h; cases h
        have nT : T1 ∉ qs := fun m => by
          obtain ⟨ns, h⟩ := rows_mem rows T1 m
          rw [h] at hT
          cases ns with
          | nil => cases hT
          | cons a r => cases hT
        obtain ⟨nl1, nl2⟩ := readS_len en
        have ql := rows.len
        show "go"
        refine Or.inr ?_
        refine o_ned (Dp.lst (SqL.of hD) (rows_dp rows)) (Dp.lst (SqL.of hD02) (rows_dp rows2)) (shaped_rows nss) ?_
        show "go"
        refine f_rng1 (fun j σ' H' => (∀ c o, c ∉ qs.take j → HT1 c = some o → H' c = some o) ∧ ∃ v4 v5, σ' = [some (.str (S l)), some (.ref D0), some (.int i), some (.ref T1), v4, v5]) (by omega) (by omega) ⟨fun _ _ _ h => h, _, _, rfl⟩ ?_ ?_
        · rintro j σ' H5 hj ⟨keep, v4, v5, rfl⟩
          have hj0 : j < qs0.length := by omega
          have hj2 : j < qs.length := by omega
          obtain ⟨ns, hns, hq⟩ := rows.at_ (List.getElem?_eq_getElem hj2)
          obtain ⟨ns', hns', hq0⟩ := rows1.at_ (List.getElem?_eq_getElem hj0)
          obtain rfl : ns = ns' := by rw [hns] at hns'; exact Option.some.inj hns'
          have nl3 := nl2 ns (List.mem_of_getElem? hns)
          have nt := nodup_take nd hj2
          have hqj := keep _ _ nt hq
          have hD05 := keep _ _ (fun m => fresh _ _ sl0 (List.mem_of_mem_take m)) hD02
          have hq05 := keep _ _ (fun m => fresh _ _ hq0 (List.mem_of_mem_take m)) (sT1 _ _ hq0)
          have hT5 := keep _ _ (fun m => nT (List.mem_of_mem_take m)) hT
          have hD5 := keep _ _ (fun m => nm (List.mem_of_mem_take m)) hD
          show "go"
          refine' ix_at (k := j) (xs := qs.map V.ref) (v := .ref qs[j]) hD5 rfl (by simp [hj2]) ?_
          show "go"
          rename_i H6 s6
          have hD06 := s6 _ _ hD05
          refine' ix_at (k := j) (xs := qs0.map V.ref) (v := .ref qs0[j]) hD06 rfl (by simp [hj0]) ?_
          have hqj6 := s6 _ _ hqj
          have hq06 := s6 _ _ hq05
          show "go"
          rename_i H7 s7 h7
          refine ⟨fun c o n h => ?_, _, _, rfl⟩
          rw [List.take_add_one, List.getElem?_eq_getElem hj2] at n
          refine s7 _ _ (fun e => n ?_) (s6 _ _ (keep _ _ (fun m => n ?_) h))
          · rw [e]; exact List.mem_append.mpr (.inr (List.mem_singleton.mpr rfl))
          · exact List.mem_append.mpr (.inl m)
        · rintro σ' H5 ⟨keep, v4, v5, rfl⟩
          simp only [List.length_map, Int.toNat_natCast] at keep
          have eq : qs.take qs0.length = qs := List.take_of_length_le (by omega)
          rw [eq] at keep
          have hT5 := keep _ _ nT hT
          have hD5 := keep _ _ nm hD
          have Dn : ∀ c o, H' c = some o → c ≠ D := fun c o h e => by rw [e, fD.out] at h; cases h
          show "go"
          rename_i E HE fE sE hE H9 s9 h9
          exact ⟨fun c o h => s9 _ _ (Dn _ _ (s2 _ _ h)) (sE _ _ (keep _ _ (fresh _ _ (s2 _ _ h)) (sT1 _ _ (s2 _ _ h)))), _, _, _, _, rfl⟩
      · rintro σ' H' ⟨s2, v2, v3, v4, v5, rfl⟩
        show "go"
        exact k _ (s1.trans s2)
/-! #### _law_well: 0 script, 1 k, 2 cell -/
def sp__law_well (T : Txt K mg) : Sp := fun vs H Q _ => ∃ (a : Addr) (ns : List Int) (j : Int), vs = [.ref a, .int j] ∧ (SqL K H a (ns.map V.int)) ∧ (0 ≤ j) ∧ (j < 1000) ∧ ∀ p x y H', 0 ≤ x → 0 ≤ y → y < 10 ^ 12 → Fr H p → Same H H' → H' p = some (.lst [.int x, .int y]) → Q (.ref p) H'
theorem len__law_well {vs H Q E} (T : Txt K mg) (h : sp__law_well T vs H Q E) : vs.length = 2 := by obtain ⟨a, ns, j, rfl, _⟩ := h; rfl
theorem use__law_well {T : Txt K mg} {H : Hp} {Q : VK} {E : XK} {a : Addr} {ns : List Int} {j : Int} (hS : SqL K H a (ns.map V.int)) (k0 : 0 ≤ j) (k1 : j < 1000) (k : ∀ p x y H', 0 ≤ x → 0 ≤ y → y < 10 ^ 12 → Fr H p → Same H H' → H' p = some (.lst [.int x, .int y]) → Q (.ref p) H') : sp__law_well T [.ref a, .int j] H Q E := ⟨a, ns, j, rfl, hS, k0, k1, k⟩
local macro_rules | `(tactic| show "own") => `(tactic| (((with_reducible refine' use__law_well ?s1 ?s2 ?s3 ?nxt); (case s1 => (show "hq")); (case s2 => (omega)); (case s3 => (omega)); (case' nxt => skip)); intro _ _ _ _ _ _ _ _ _ _))

theorem ok__law_well (T : Txt K mg) : FnOk P w K mg base CX0 1 T.f__law_well T.fd__law_well ["script", "k"] (sp__law_well T) := by
  refine T.F__law_well.ok sc__law_well (fun vs H Q E h => ?_) (fun cdv A outer s H vs Q E hr h => ?_)
  · exact len__law_well T h
  · refine ⟨_, (pss_cons (ps_set (i := 2) sc__law_well.nd rfl (Or.inl rfl) pe_int)
    (pss_cons (ps_if (pt_cmpR op_ltU (pv 1) (pe_callB (c_lenK (K := K) rfl) (by rfl) T.z_len (by decide +kernel) (pa_cons (pv 0) pa_nil)) (nomark _)) (pss_one (ps_set (i := 2) sc__law_well.nd rfl (Or.inl rfl) (pe_ix (ix_seqK (K := K) rfl) (pv 0) (pv 1) (fun _ _ => rfl)))) pss_nil)
    (pss_cons (ps_if (pt_cmpR op_geU (pv 2) (pe_op op_powU pe_int pe_int) (nomark _)) (pss_one (ps_ret (pe_lst (pa_cons (pe_op op_subU (pv 2) (pe_op op_powU pe_int pe_int)) (pa_cons (pe_op op_mulU pe_int (pe_op (op_addK (K := K) rfl) (pv 1) pe_int)) pa_nil))))) pss_nil)
    (pss_one (ps_ret (pe_lst (pa_cons pe_int (pa_cons (pe_op (op_addK (K := K) rfl) (pe_op op_modU (pe_callTy c_int1 (by rfl) T.z_int (by decide +kernel) (pa_cons (pv 2) pa_nil)) pe_int) (pe_op op_mulU pe_int (pe_op (op_addK (K := K) rfl) (pv 1) pe_int))) pa_nil)))))))), ?_⟩
    clear hr
    obtain ⟨a, ns, j, rfl, hS, k0, k1, k⟩ := h
    refine st_eq (σ' := [some _, some _, none]) rfl ?_
    show "go"
    refine ifs_2 (fun e => ?_) (fun e => ?_)
    · show "go"
      obtain ⟨c, hc⟩ := ix_int hS k0 e
      refine hc _ ?_
      show "go"
      refine ifs_2 (fun e1 => ?_) (fun e1 => ?_)
      · show "go"
        exact k _ (c - 1000000000000000000) (104729 * (j + 1)) _ (by omega) (by omega) (by omega) (by assumption) (by assumption) (by assumption)
      · show "go"
        exact k _ 0 (c % 4294967291 + 104729 * (j + 1)) _ (by omega) (by omega) (by omega) (by assumption) (by assumption) (by assumption)
    · show "go"
      exact k _ 0 (0 % 4294967291 + 104729 * (j + 1)) _ (by omega) (by omega) (by omega) (by assumption) (by assumption) (by assumption)
/-! #### law: 0 script, 1 k, 2 good, 3 text -/
def spLaw (K : PySem.W.Frag) : Sp := fun vs H Q _ => ∃ (a : Addr) (ns : List Int), vs = [.ref a] ∧ SqL K H a (ns.map V.int) ∧ ns.length ≤ 63 ∧ ∀ H', Q (.bl true) H'
def sp_law (_ : Txt K mg) : Sp := spLaw K
theorem law_imp (T : Txt K mg) : ∀ vs H Q E, spLaw K vs H Q E → sp_law T vs H Q E := fun _ _ _ _ h => h
theorem len_law {vs H Q E} (T : Txt K mg) (h : sp_law T vs H Q E) : vs.length = 1 := by obtain ⟨a, ns, rfl, _⟩ := h; rfl
theorem ok_law (T : Txt K mg) : FnOk P w K mg base CX0 6 T.f_law T.fd_law ["script"] (sp_law T) := by
  have G__law_case : FnOk P w K mg base CX0 4 T.f__law_case T.fd__law_case ["well"] (sp__law_case T) := ok__law_case T
  have G__law_long_right : FnOk P w K mg base CX0 4 T.f__law_long_right T.fd__law_long_right ["well"] (sp__law_long_right T) := ok__law_long_right T
  have G__law_right : FnOk P w K mg base CX0 5 T.f__law_right T.fd__law_right ["text"] (sp__law_right T) := ok__law_right T
  have G__law_well : FnOk P w K mg base CX0 1 T.f__law_well T.fd__law_well ["script", "k"] (sp__law_well T) := ok__law_well T
  refine T.F_law.ok sc_law (fun vs H Q E h => ?_) (fun cdv A outer s H vs Q E hr h => ?_)
  · exact len_law T h
  · refine ⟨_, (pss_cons (ps_if (pt_not (ptTK (K := K) rfl (pe_call G__law_long_right (hr.mono (by decide)) rfl T.g__law_long_right T.F__law_long_right.kp T.b__law_long_right .nil pass0 (pa_cons (pe_call G__law_well (hr.mono (by decide)) rfl T.g__law_well T.F__law_well.kp T.b__law_well .nil pass0 (pa_cons (pv 0) (pa_cons (pe_callB (c_max2 rfl) (by rfl) T.z_max (by decide +kernel) (pa_cons pe_int (pa_cons (pe_op op_subU (pe_callB (c_lenK (K := K) rfl) (by rfl) T.z_len (by decide +kernel) (pa_cons (pv 0) pa_nil)) pe_int) pa_nil))) pa_nil))) pa_nil)) (by intro _; rfl))) (pss_one (ps_ret pe_bl)) pss_nil)
    (pss_cons (ps_for PassesOwn.never rfl (pi_range1 rfl T.z_range (pa_cons (pe_callB (c_max2 rfl) (by rfl) T.z_max (by decide +kernel) (pa_cons pe_int (pa_cons (pe_callB (c_min2 rfl) (by rfl) T.z_min (by decide +kernel) (pa_cons pe_int (pa_cons (pe_callB (c_lenK (K := K) rfl) (by rfl) T.z_len (by decide +kernel) (pa_cons (pv 0) pa_nil)) pa_nil))) pa_nil))) pa_nil)) (pg_name (i := 1) sc_law.nd rfl (Or.inl rfl)) (pss_cons (ps_asg (pe_call G__law_case (hr.mono (by decide)) rfl T.g__law_case T.F__law_case.kp T.b__law_case .nil pass0 (pa_cons (pe_call G__law_well (hr.mono (by decide)) rfl T.g__law_well T.F__law_well.kp T.b__law_well .nil pass0 (pa_cons (pv 0) (pa_cons (pv 1) pa_nil))) pa_nil)) (pg_tlK (K := K) rfl rfl (pgs_cons (pg_name (i := 2) sc_law.nd rfl (Or.inl rfl)) (pgs_cons (pg_name (i := 3) sc_law.nd rfl (Or.inl rfl)) pgs_nil))))
    (pss_one (ps_if (PW.pt (pw_or (pt_not (ptTK (K := K) rfl (pe_call G__law_right (hr.mono (by decide)) rfl T.g__law_right T.F__law_right.kp T.b__law_right .nil pass0 (pa_cons (pv 3) pa_nil)) (by intro _; rfl))) (pw_or1 (pt_not (ptTK (K := K) rfl (pe_call G__law_right (hr.mono (by decide)) rfl T.g__law_right T.F__law_right.kp T.b__law_right .nil pass0 (pa_cons (pv 2) pa_nil)) (by intro _; rfl)))))) (pss_one (ps_ret pe_bl)) pss_nil))))
    (pss_one (ps_ret pe_bl)))), ?_⟩
    clear hr
    obtain ⟨a, ns, rfl, hS, hl, q⟩ := h
    refine st_eq (σ' := [some _, none, none, none]) rfl ?_
    show "go"
    rename_i p0 x0' y0' H0 a0 a1 a2 f0 s0 h0 H1 sb1
    have t1 : Same H H1 := SB.same s0 f0 sb1
    have hS1 := t1.seq hS
    clear s0 f0 sb1 h0
    show "go"
    refine f_rng1 (fun i σ' H' => Same H H' ∧ ∃ v1 v2 v3, σ' = [some (.ref a), v1, v2, v3]) (by (repeat' split) <;> omega) (by (repeat' split) <;> omega) ⟨t1, _, _, _, rfl⟩ ?_ ?_
    · rintro i σ' H' hi ⟨s1, v1, v2, v3, rfl⟩
      have hi2 : (i : Int) < 63 := by
        revert hi
        repeat' split
        all_goals omega
      show "go"
      rename_i p x y Hp' x0 y0 y1 fp sp hp T g z HT sT tg tz hT
      obtain ⟨lg, rfl, g1, g2⟩ := tg.ex
      obtain ⟨lz, rfl, z1, z2⟩ := tz.ex
      have t2 : Same H' HT := SB.same sp fp sT
      show "go"
      rename_i H8 s8 H9 s9
      exact ⟨((s1.trans t2).trans s8).trans s9, _, _, _, rfl⟩
    · rintro σ' H' ⟨s1, v1, v2, v3, rfl⟩
      show "go"
      exact q _
end
/-! ### the end -/
theorem all_mk {l : PySem.W.OpenLaw} {w : World} {K : PySem.W.Frag} {h : Heap} {mg : Str → Option Value} {fa : Addr} (X : K.In h) (G : h.Ns mainGlobals mg) (hfa : mg "law" = some (.ref fa))
    {C_SquareError C_Unreadable f__law_dip f__law_great f__law_odd_text f__law_signed f__law_char f__law_spoilt f__law_case f__law_integers f_SquareError___init__ f__integer f__integers f_read_square f_show_square f__law_long_right f__law_base f__law_read f__law_word f__law_words f__law_square f__law_right f__law_well f_law : Addr}
    {od__law_dip an__law_dip od__law_great an__law_great od__law_odd_text an__law_odd_text od__law_signed an__law_signed od__law_char an__law_char od__law_spoilt an__law_spoilt od__law_case an__law_case od__law_integers an__law_integers od_SquareError___init__ an_SquareError___init__ od__integer an__integer od__integers an__integers od_read_square an_read_square od_show_square an_show_square od__law_long_right an__law_long_right od__law_base an__law_base od__law_read an__law_read od__law_word an__law_word od__law_words an__law_words od__law_square an__law_square od__law_right an__law_right od__law_well an__law_well od_law an_law : Option Addr} {sl__law_dip sl__law_great sl__law_odd_text sl__law_signed sl__law_char sl__law_spoilt sl__law_case sl__law_integers sl_SquareError___init__ sl__integer sl__integers sl_read_square sl_show_square sl__law_long_right sl__law_base sl__law_read sl__law_word sl__law_words sl__law_square sl__law_right sl__law_well sl_law : Array (Option Value)} {oc__law_dip kV__law_dip dc__law_dip pm__law_dip cd__law_dip ct__law_dip oc__law_great kV__law_great dc__law_great pm__law_great cd__law_great ct__law_great oc__law_odd_text kV__law_odd_text dc__law_odd_text pm__law_odd_text cd__law_odd_text ct__law_odd_text oc__law_signed kV__law_signed dc__law_signed pm__law_signed cd__law_signed ct__law_signed oc__law_char kV__law_char dc__law_char pm__law_char cd__law_char ct__law_char oc__law_spoilt kV__law_spoilt dc__law_spoilt pm__law_spoilt cd__law_spoilt ct__law_spoilt oc__law_case kV__law_case dc__law_case pm__law_case cd__law_case ct__law_case oc__law_integers kV__law_integers dc__law_integers pm__law_integers cd__law_integers ct__law_integers oc_SquareError___init__ kV_SquareError___init__ dc_SquareError___init__ pm_SquareError___init__ cd_SquareError___init__ ct_SquareError___init__ oc__integer kV__integer dc__integer pm__integer cd__integer ct__integer oc__integers kV__integers dc__integers pm__integers cd__integers ct__integers oc_read_square kV_read_square dc_read_square pm_read_square cd_read_square ct_read_square oc_show_square kV_show_square dc_show_square pm_show_square cd_show_square ct_show_square oc__law_long_right kV__law_long_right dc__law_long_right pm__law_long_right cd__law_long_right ct__law_long_right oc__law_base kV__law_base dc__law_base pm__law_base cd__law_base ct__law_base oc__law_read kV__law_read dc__law_read pm__law_read cd__law_read ct__law_read oc__law_word kV__law_word dc__law_word pm__law_word cd__law_word ct__law_word oc__law_words kV__law_words dc__law_words pm__law_words cd__law_words ct__law_words oc__law_square kV__law_square dc__law_square pm__law_square cd__law_square ct__law_square oc__law_right kV__law_right dc__law_right pm__law_right cd__law_right ct__law_right oc__law_well kV__law_well dc__law_well pm__law_well cd__law_well ct__law_well oc_law kV_law dc_law pm_law cd_law ct_law : Value}
    {nm_Unreadable q_Unreadable : Str} {N_Unreadable : Addr} {bs_Unreadable sub_Unreadable : List Value} {sn_Unreadable : List Str} {ab_Unreadable : Bool} {col_Unreadable : Option Bool} {dd_Unreadable : Option Addr} {k0_Unreadable k1_Unreadable k2_Unreadable k3_Unreadable k5_Unreadable : Option Value}
    (aC_SquareError : PySem.W.nsIn K mainGlobals "SquareError" = some (some (.ref C_SquareError)))
    (aC_Unreadable : PySem.W.nsIn K mainGlobals "Unreadable" = some (some (.ref C_Unreadable)))
    (a__law_dip : PySem.W.nsIn K mainGlobals "_law_dip" = some (some (.ref f__law_dip)))
    (l__law_dip : K.lookup f__law_dip = some ⟨oc__law_dip, od__law_dip, .func (PySem.W.fnOf "_law_dip" "_law_dip" (defArgs s__law_dip) (defBody s__law_dip) (defScope s__law_dip) .none kV__law_dip dc__law_dip pm__law_dip an__law_dip cd__law_dip ct__law_dip), sl__law_dip⟩)
    (c__law_dip : PySem.W.codeIn K cd__law_dip "_law_dip" = true)
    (k__law_dip : PySem.W.keepIn K (.ref f__law_dip) = true)
    (a__law_great : PySem.W.nsIn K mainGlobals "_law_great" = some (some (.ref f__law_great)))
    (l__law_great : K.lookup f__law_great = some ⟨oc__law_great, od__law_great, .func (PySem.W.fnOf "_law_great" "_law_great" (defArgs s__law_great) (defBody s__law_great) (defScope s__law_great) .none kV__law_great dc__law_great pm__law_great an__law_great cd__law_great ct__law_great), sl__law_great⟩)
    (c__law_great : PySem.W.codeIn K cd__law_great "_law_great" = true)
    (k__law_great : PySem.W.keepIn K (.ref f__law_great) = true)
    (a__law_odd_text : PySem.W.nsIn K mainGlobals "_law_odd_text" = some (some (.ref f__law_odd_text)))
    (l__law_odd_text : K.lookup f__law_odd_text = some ⟨oc__law_odd_text, od__law_odd_text, .func (PySem.W.fnOf "_law_odd_text" "_law_odd_text" (defArgs s__law_odd_text) (defBody s__law_odd_text) (defScope s__law_odd_text) .none kV__law_odd_text dc__law_odd_text pm__law_odd_text an__law_odd_text cd__law_odd_text ct__law_odd_text), sl__law_odd_text⟩)
    (c__law_odd_text : PySem.W.codeIn K cd__law_odd_text "_law_odd_text" = true)
    (k__law_odd_text : PySem.W.keepIn K (.ref f__law_odd_text) = true)
    (a__law_signed : PySem.W.nsIn K mainGlobals "_law_signed" = some (some (.ref f__law_signed)))
    (l__law_signed : K.lookup f__law_signed = some ⟨oc__law_signed, od__law_signed, .func (PySem.W.fnOf "_law_signed" "_law_signed" (defArgs s__law_signed) (defBody s__law_signed) (defScope s__law_signed) .none kV__law_signed dc__law_signed pm__law_signed an__law_signed cd__law_signed ct__law_signed), sl__law_signed⟩)
    (c__law_signed : PySem.W.codeIn K cd__law_signed "_law_signed" = true)
    (k__law_signed : PySem.W.keepIn K (.ref f__law_signed) = true)
    (a__law_char : PySem.W.nsIn K mainGlobals "_law_char" = some (some (.ref f__law_char)))
    (l__law_char : K.lookup f__law_char = some ⟨oc__law_char, od__law_char, .func (PySem.W.fnOf "_law_char" "_law_char" (defArgs s__law_char) (defBody s__law_char) (defScope s__law_char) .none kV__law_char dc__law_char pm__law_char an__law_char cd__law_char ct__law_char), sl__law_char⟩)
    (c__law_char : PySem.W.codeIn K cd__law_char "_law_char" = true)
    (k__law_char : PySem.W.keepIn K (.ref f__law_char) = true)
    (a__law_spoilt : PySem.W.nsIn K mainGlobals "_law_spoilt" = some (some (.ref f__law_spoilt)))
    (l__law_spoilt : K.lookup f__law_spoilt = some ⟨oc__law_spoilt, od__law_spoilt, .func (PySem.W.fnOf "_law_spoilt" "_law_spoilt" (defArgs s__law_spoilt) (defBody s__law_spoilt) (defScope s__law_spoilt) .none kV__law_spoilt dc__law_spoilt pm__law_spoilt an__law_spoilt cd__law_spoilt ct__law_spoilt), sl__law_spoilt⟩)
    (c__law_spoilt : PySem.W.codeIn K cd__law_spoilt "_law_spoilt" = true)
    (k__law_spoilt : PySem.W.keepIn K (.ref f__law_spoilt) = true)
    (a__law_case : PySem.W.nsIn K mainGlobals "_law_case" = some (some (.ref f__law_case)))
    (l__law_case : K.lookup f__law_case = some ⟨oc__law_case, od__law_case, .func (PySem.W.fnOf "_law_case" "_law_case" (defArgs s__law_case) (defBody s__law_case) (defScope s__law_case) .none kV__law_case dc__law_case pm__law_case an__law_case cd__law_case ct__law_case), sl__law_case⟩)
    (c__law_case : PySem.W.codeIn K cd__law_case "_law_case" = true)
    (k__law_case : PySem.W.keepIn K (.ref f__law_case) = true)
    (a__law_integers : PySem.W.nsIn K mainGlobals "_law_integers" = some (some (.ref f__law_integers)))
    (l__law_integers : K.lookup f__law_integers = some ⟨oc__law_integers, od__law_integers, .func (PySem.W.fnOf "_law_integers" "_law_integers" (defArgs s__law_integers) (defBody s__law_integers) (defScope s__law_integers) .none kV__law_integers dc__law_integers pm__law_integers an__law_integers cd__law_integers ct__law_integers), sl__law_integers⟩)
    (c__law_integers : PySem.W.codeIn K cd__law_integers "_law_integers" = true)
    (k__law_integers : PySem.W.keepIn K (.ref f__law_integers) = true)
    (a_SquareError___init__ : PySem.W.findIn K (.ref C_SquareError) "__init__" = some (some (.ref f_SquareError___init__)))
    (i_SquareError___init__ : PySem.W.isFn K (.ref f_SquareError___init__) = true)
    (t_SquareError___init__ : PySem.W.typeIn K (.ref f_SquareError___init__) = some (.type "function"))
    (l_SquareError___init__ : K.lookup f_SquareError___init__ = some ⟨oc_SquareError___init__, od_SquareError___init__, .func (PySem.W.fnOf "__init__" "SquareError.__init__" (defArgs s_SquareError___init__) (defBody s_SquareError___init__) (defScope s_SquareError___init__) .none kV_SquareError___init__ dc_SquareError___init__ pm_SquareError___init__ an_SquareError___init__ cd_SquareError___init__ ct_SquareError___init__), sl_SquareError___init__⟩)
    (c_SquareError___init__ : PySem.W.codeIn K cd_SquareError___init__ "SquareError.__init__" = true)
    (k_SquareError___init__ : PySem.W.keepIn K (.ref f_SquareError___init__) = true)
    (a__integer : PySem.W.nsIn K mainGlobals "_integer" = some (some (.ref f__integer)))
    (l__integer : K.lookup f__integer = some ⟨oc__integer, od__integer, .func (PySem.W.fnOf "_integer" "_integer" (defArgs s__integer) (defBody s__integer) (defScope s__integer) .none kV__integer dc__integer pm__integer an__integer cd__integer ct__integer), sl__integer⟩)
    (c__integer : PySem.W.codeIn K cd__integer "_integer" = true)
    (k__integer : PySem.W.keepIn K (.ref f__integer) = true)
    (a__integers : PySem.W.nsIn K mainGlobals "_integers" = some (some (.ref f__integers)))
    (l__integers : K.lookup f__integers = some ⟨oc__integers, od__integers, .func (PySem.W.fnOf "_integers" "_integers" (defArgs s__integers) (defBody s__integers) (defScope s__integers) .none kV__integers dc__integers pm__integers an__integers cd__integers ct__integers), sl__integers⟩)
    (c__integers : PySem.W.codeIn K cd__integers "_integers" = true)
    (k__integers : PySem.W.keepIn K (.ref f__integers) = true)
    (a_read_square : PySem.W.nsIn K mainGlobals "read_square" = some (some (.ref f_read_square)))
    (l_read_square : K.lookup f_read_square = some ⟨oc_read_square, od_read_square, .func (PySem.W.fnOf "read_square" "read_square" (defArgs s_read_square) (defBody s_read_square) (defScope s_read_square) .none kV_read_square dc_read_square pm_read_square an_read_square cd_read_square ct_read_square), sl_read_square⟩)
    (c_read_square : PySem.W.codeIn K cd_read_square "read_square" = true)
    (k_read_square : PySem.W.keepIn K (.ref f_read_square) = true)
    (a_show_square : PySem.W.nsIn K mainGlobals "show_square" = some (some (.ref f_show_square)))
    (l_show_square : K.lookup f_show_square = some ⟨oc_show_square, od_show_square, .func (PySem.W.fnOf "show_square" "show_square" (defArgs s_show_square) (defBody s_show_square) (defScope s_show_square) .none kV_show_square dc_show_square pm_show_square an_show_square cd_show_square ct_show_square), sl_show_square⟩)
    (c_show_square : PySem.W.codeIn K cd_show_square "show_square" = true)
    (k_show_square : PySem.W.keepIn K (.ref f_show_square) = true)
    (a__law_long_right : PySem.W.nsIn K mainGlobals "_law_long_right" = some (some (.ref f__law_long_right)))
    (l__law_long_right : K.lookup f__law_long_right = some ⟨oc__law_long_right, od__law_long_right, .func (PySem.W.fnOf "_law_long_right" "_law_long_right" (defArgs s__law_long_right) (defBody s__law_long_right) (defScope s__law_long_right) .none kV__law_long_right dc__law_long_right pm__law_long_right an__law_long_right cd__law_long_right ct__law_long_right), sl__law_long_right⟩)
    (c__law_long_right : PySem.W.codeIn K cd__law_long_right "_law_long_right" = true)
    (k__law_long_right : PySem.W.keepIn K (.ref f__law_long_right) = true)
    (a__law_base : PySem.W.nsIn K mainGlobals "_law_base" = some (some (.ref f__law_base)))
    (l__law_base : K.lookup f__law_base = some ⟨oc__law_base, od__law_base, .func (PySem.W.fnOf "_law_base" "_law_base" (defArgs s__law_base) (defBody s__law_base) (defScope s__law_base) .none kV__law_base dc__law_base pm__law_base an__law_base cd__law_base ct__law_base), sl__law_base⟩)
    (c__law_base : PySem.W.codeIn K cd__law_base "_law_base" = true)
    (k__law_base : PySem.W.keepIn K (.ref f__law_base) = true)
    (a__law_read : PySem.W.nsIn K mainGlobals "_law_read" = some (some (.ref f__law_read)))
    (l__law_read : K.lookup f__law_read = some ⟨oc__law_read, od__law_read, .func (PySem.W.fnOf "_law_read" "_law_read" (defArgs s__law_read) (defBody s__law_read) (defScope s__law_read) .none kV__law_read dc__law_read pm__law_read an__law_read cd__law_read ct__law_read), sl__law_read⟩)
    (c__law_read : PySem.W.codeIn K cd__law_read "_law_read" = true)
    (k__law_read : PySem.W.keepIn K (.ref f__law_read) = true)
    (a__law_word : PySem.W.nsIn K mainGlobals "_law_word" = some (some (.ref f__law_word)))
    (l__law_word : K.lookup f__law_word = some ⟨oc__law_word, od__law_word, .func (PySem.W.fnOf "_law_word" "_law_word" (defArgs s__law_word) (defBody s__law_word) (defScope s__law_word) .none kV__law_word dc__law_word pm__law_word an__law_word cd__law_word ct__law_word), sl__law_word⟩)
    (c__law_word : PySem.W.codeIn K cd__law_word "_law_word" = true)
    (k__law_word : PySem.W.keepIn K (.ref f__law_word) = true)
    (a__law_words : PySem.W.nsIn K mainGlobals "_law_words" = some (some (.ref f__law_words)))
    (l__law_words : K.lookup f__law_words = some ⟨oc__law_words, od__law_words, .func (PySem.W.fnOf "_law_words" "_law_words" (defArgs s__law_words) (defBody s__law_words) (defScope s__law_words) .none kV__law_words dc__law_words pm__law_words an__law_words cd__law_words ct__law_words), sl__law_words⟩)
    (c__law_words : PySem.W.codeIn K cd__law_words "_law_words" = true)
    (k__law_words : PySem.W.keepIn K (.ref f__law_words) = true)
    (a__law_square : PySem.W.nsIn K mainGlobals "_law_square" = some (some (.ref f__law_square)))
    (l__law_square : K.lookup f__law_square = some ⟨oc__law_square, od__law_square, .func (PySem.W.fnOf "_law_square" "_law_square" (defArgs s__law_square) (defBody s__law_square) (defScope s__law_square) .none kV__law_square dc__law_square pm__law_square an__law_square cd__law_square ct__law_square), sl__law_square⟩)
    (c__law_square : PySem.W.codeIn K cd__law_square "_law_square" = true)
    (k__law_square : PySem.W.keepIn K (.ref f__law_square) = true)
    (a__law_right : PySem.W.nsIn K mainGlobals "_law_right" = some (some (.ref f__law_right)))
    (l__law_right : K.lookup f__law_right = some ⟨oc__law_right, od__law_right, .func (PySem.W.fnOf "_law_right" "_law_right" (defArgs s__law_right) (defBody s__law_right) (defScope s__law_right) .none kV__law_right dc__law_right pm__law_right an__law_right cd__law_right ct__law_right), sl__law_right⟩)
    (c__law_right : PySem.W.codeIn K cd__law_right "_law_right" = true)
    (k__law_right : PySem.W.keepIn K (.ref f__law_right) = true)
    (a__law_well : PySem.W.nsIn K mainGlobals "_law_well" = some (some (.ref f__law_well)))
    (l__law_well : K.lookup f__law_well = some ⟨oc__law_well, od__law_well, .func (PySem.W.fnOf "_law_well" "_law_well" (defArgs s__law_well) (defBody s__law_well) (defScope s__law_well) .none kV__law_well dc__law_well pm__law_well an__law_well cd__law_well ct__law_well), sl__law_well⟩)
    (c__law_well : PySem.W.codeIn K cd__law_well "_law_well" = true)
    (k__law_well : PySem.W.keepIn K (.ref f__law_well) = true)
    (a_law : PySem.W.nsIn K mainGlobals "law" = some (some (.ref f_law)))
    (l_law : K.lookup f_law = some ⟨oc_law, od_law, .func (PySem.W.fnOf "law" "law" (defArgs s_law) (defBody s_law) (defScope s_law) .none kV_law dc_law pm_law an_law cd_law ct_law), sl_law⟩)
    (c_law : PySem.W.codeIn K cd_law "law" = true)
    (k_law : PySem.W.keepIn K (.ref f_law) = true)
    (zz_bool : PySem.W.nsIn K mainGlobals "bool" = some none)
    (zz_int : PySem.W.nsIn K mainGlobals "int" = some none)
    (zz_isinstance : PySem.W.nsIn K mainGlobals "isinstance" = some none)
    (zz_len : PySem.W.nsIn K mainGlobals "len" = some none)
    (zz_list : PySem.W.nsIn K mainGlobals "list" = some none)
    (zz_max : PySem.W.nsIn K mainGlobals "max" = some none)
    (zz_min : PySem.W.nsIn K mainGlobals "min" = some none)
    (zz_range : PySem.W.nsIn K mainGlobals "range" = some none)
    (zz_str : PySem.W.nsIn K mainGlobals "str" = some none)
    (xL_Unreadable : K.lookup C_Unreadable = some (excClassObj nm_Unreadable q_Unreadable C_Unreadable N_Unreadable bs_Unreadable (.ref C_SquareError :: [.type "ValueError", .type "Exception", .type "BaseException", .type "object"]) true sn_Unreadable sub_Unreadable ab_Unreadable col_Unreadable dd_Unreadable k0_Unreadable k1_Unreadable k2_Unreadable k3_Unreadable k5_Unreadable "ValueError.__new__"))
    (sa_Unreadable : PySem.W.findIn K (.ref C_Unreadable) "__setattr__" = some (some (.builtin "object.__setattr__")))
    (eC_Unreadable : PySem.W.subIn K (.ref C_Unreadable) (.type "BaseException") = some true)
    (tC_Unreadable : PySem.W.typeIn K (.ref C_Unreadable) = some (.type "type"))
    (kC_Unreadable : PySem.W.keepIn K (.ref C_Unreadable) = true)
    (ga_Unreadable : PySem.W.findIn K (.ref C_Unreadable) "__getattribute__" = some (some (.builtin "BaseException.__getattribute__")))
    (gg_Unreadable : PySem.W.findIn K (.ref C_Unreadable) "__getattr__" = some none)
    (hd_Unreadable : PySem.W.hasDictIn K C_Unreadable = true)
    (ca_Unreadable : PySem.W.findIn K (.ref C_Unreadable) "__class__" = some (some (.builtin "object.__class__")))
    (hcn_err : PySem.W.specialIn K (.builtin "object.__class__") "__get__" = some (some (.builtin "getset_descriptor.__get__")))
    (hct_err : PySem.W.takesIn K (.builtin "object.__class__") = some true)
    (cm_Unreadable : PySem.W.mroIn K C_Unreadable (.type "object") = some true)
    (hvn_Unreadable : PySem.W.findIn K (.ref C_Unreadable) "value" = some none)
    (hii_Unreadable : PySem.W.findIn K (.ref C_Unreadable) "__init__" = some (some (.ref f_SquareError___init__)))
    (hsb_Unreadable_Unreadable : PySem.W.subIn K (.ref C_Unreadable) (.ref C_Unreadable) = some true)
    (eC_SquareError : PySem.W.subIn K (.ref C_SquareError) (.type "BaseException") = some true)
    (tC_SquareError : PySem.W.typeIn K (.ref C_SquareError) = some (.type "type"))
    (hd_SquareError : PySem.W.hasDictIn K C_SquareError = true)
    (hsb_Unreadable_SquareError : PySem.W.subIn K (.ref C_Unreadable) (.ref C_SquareError) = some true)
    (hkv_Unreadable : PySem.W.subIn K (.ref C_Unreadable) (.type "ValueError") = some true)
    : ∃ fd : FuncData, (∀ (s : Shared) (v : Value), BindsTo s fd ⟨[v], []⟩ [("script", v)]) ∧ ∀ base : Heap, K.In base → base.Ns mainGlobals mg → FnOk l.prog w K mg base CX0 6 fa fd ["script"] (spLaw K) := by
  have e := hfa.symm.trans (PySem.W.mg_of X G a_law)
  cases e
  let T : Txt K mg := {
    C_SquareError := C_SquareError,
    C_Unreadable := C_Unreadable,
    f__law_dip := f__law_dip,
    fd__law_dip := PySem.W.fnOf "_law_dip" "_law_dip" (defArgs s__law_dip) (defBody s__law_dip) (defScope s__law_dip) .none kV__law_dip dc__law_dip pm__law_dip an__law_dip cd__law_dip ct__law_dip,
    f__law_great := f__law_great,
    fd__law_great := PySem.W.fnOf "_law_great" "_law_great" (defArgs s__law_great) (defBody s__law_great) (defScope s__law_great) .none kV__law_great dc__law_great pm__law_great an__law_great cd__law_great ct__law_great,
    f__law_odd_text := f__law_odd_text,
    fd__law_odd_text := PySem.W.fnOf "_law_odd_text" "_law_odd_text" (defArgs s__law_odd_text) (defBody s__law_odd_text) (defScope s__law_odd_text) .none kV__law_odd_text dc__law_odd_text pm__law_odd_text an__law_odd_text cd__law_odd_text ct__law_odd_text,
    f__law_signed := f__law_signed,
    fd__law_signed := PySem.W.fnOf "_law_signed" "_law_signed" (defArgs s__law_signed) (defBody s__law_signed) (defScope s__law_signed) .none kV__law_signed dc__law_signed pm__law_signed an__law_signed cd__law_signed ct__law_signed,
    f__law_char := f__law_char,
    fd__law_char := PySem.W.fnOf "_law_char" "_law_char" (defArgs s__law_char) (defBody s__law_char) (defScope s__law_char) .none kV__law_char dc__law_char pm__law_char an__law_char cd__law_char ct__law_char,
    f__law_spoilt := f__law_spoilt,
    fd__law_spoilt := PySem.W.fnOf "_law_spoilt" "_law_spoilt" (defArgs s__law_spoilt) (defBody s__law_spoilt) (defScope s__law_spoilt) .none kV__law_spoilt dc__law_spoilt pm__law_spoilt an__law_spoilt cd__law_spoilt ct__law_spoilt,
    f__law_case := f__law_case,
    fd__law_case := PySem.W.fnOf "_law_case" "_law_case" (defArgs s__law_case) (defBody s__law_case) (defScope s__law_case) .none kV__law_case dc__law_case pm__law_case an__law_case cd__law_case ct__law_case,
    f__law_integers := f__law_integers,
    fd__law_integers := PySem.W.fnOf "_law_integers" "_law_integers" (defArgs s__law_integers) (defBody s__law_integers) (defScope s__law_integers) .none kV__law_integers dc__law_integers pm__law_integers an__law_integers cd__law_integers ct__law_integers,
    f_SquareError___init__ := f_SquareError___init__,
    fd_SquareError___init__ := PySem.W.fnOf "__init__" "SquareError.__init__" (defArgs s_SquareError___init__) (defBody s_SquareError___init__) (defScope s_SquareError___init__) .none kV_SquareError___init__ dc_SquareError___init__ pm_SquareError___init__ an_SquareError___init__ cd_SquareError___init__ ct_SquareError___init__,
    f__integer := f__integer,
    fd__integer := PySem.W.fnOf "_integer" "_integer" (defArgs s__integer) (defBody s__integer) (defScope s__integer) .none kV__integer dc__integer pm__integer an__integer cd__integer ct__integer,
    f__integers := f__integers,
    fd__integers := PySem.W.fnOf "_integers" "_integers" (defArgs s__integers) (defBody s__integers) (defScope s__integers) .none kV__integers dc__integers pm__integers an__integers cd__integers ct__integers,
    f_read_square := f_read_square,
    fd_read_square := PySem.W.fnOf "read_square" "read_square" (defArgs s_read_square) (defBody s_read_square) (defScope s_read_square) .none kV_read_square dc_read_square pm_read_square an_read_square cd_read_square ct_read_square,
    f_show_square := f_show_square,
    fd_show_square := PySem.W.fnOf "show_square" "show_square" (defArgs s_show_square) (defBody s_show_square) (defScope s_show_square) .none kV_show_square dc_show_square pm_show_square an_show_square cd_show_square ct_show_square,
    f__law_long_right := f__law_long_right,
    fd__law_long_right := PySem.W.fnOf "_law_long_right" "_law_long_right" (defArgs s__law_long_right) (defBody s__law_long_right) (defScope s__law_long_right) .none kV__law_long_right dc__law_long_right pm__law_long_right an__law_long_right cd__law_long_right ct__law_long_right,
    f__law_base := f__law_base,
    fd__law_base := PySem.W.fnOf "_law_base" "_law_base" (defArgs s__law_base) (defBody s__law_base) (defScope s__law_base) .none kV__law_base dc__law_base pm__law_base an__law_base cd__law_base ct__law_base,
    f__law_read := f__law_read,
    fd__law_read := PySem.W.fnOf "_law_read" "_law_read" (defArgs s__law_read) (defBody s__law_read) (defScope s__law_read) .none kV__law_read dc__law_read pm__law_read an__law_read cd__law_read ct__law_read,
    f__law_word := f__law_word,
    fd__law_word := PySem.W.fnOf "_law_word" "_law_word" (defArgs s__law_word) (defBody s__law_word) (defScope s__law_word) .none kV__law_word dc__law_word pm__law_word an__law_word cd__law_word ct__law_word,
    f__law_words := f__law_words,
    fd__law_words := PySem.W.fnOf "_law_words" "_law_words" (defArgs s__law_words) (defBody s__law_words) (defScope s__law_words) .none kV__law_words dc__law_words pm__law_words an__law_words cd__law_words ct__law_words,
    f__law_square := f__law_square,
    fd__law_square := PySem.W.fnOf "_law_square" "_law_square" (defArgs s__law_square) (defBody s__law_square) (defScope s__law_square) .none kV__law_square dc__law_square pm__law_square an__law_square cd__law_square ct__law_square,
    f__law_right := f__law_right,
    fd__law_right := PySem.W.fnOf "_law_right" "_law_right" (defArgs s__law_right) (defBody s__law_right) (defScope s__law_right) .none kV__law_right dc__law_right pm__law_right an__law_right cd__law_right ct__law_right,
    f__law_well := f__law_well,
    fd__law_well := PySem.W.fnOf "_law_well" "_law_well" (defArgs s__law_well) (defBody s__law_well) (defScope s__law_well) .none kV__law_well dc__law_well pm__law_well an__law_well cd__law_well ct__law_well,
    f_law := fa,
    fd_law := PySem.W.fnOf "law" "law" (defArgs s_law) (defBody s_law) (defScope s_law) .none kV_law dc_law pm_law an_law cd_law ct_law,
    gC_SquareError := PySem.W.mg_of X G aC_SquareError,
    gC_Unreadable := PySem.W.mg_of X G aC_Unreadable,
    g__law_dip := PySem.W.mg_of X G a__law_dip,
    F__law_dip := fun_mk (st := s__law_dip) l__law_dip c__law_dip k__law_dip,
    b__law_dip := (fun_mk (st := s__law_dip) l__law_dip c__law_dip k__law_dip).binds (ps := ["well", "many"]) fun _ _ _ _ _ _ us hl => match us, hl with | [_, _], _ => rfl,
    g__law_great := PySem.W.mg_of X G a__law_great,
    F__law_great := fun_mk (st := s__law_great) l__law_great c__law_great k__law_great,
    b__law_great := (fun_mk (st := s__law_great) l__law_great c__law_great k__law_great).binds (ps := ["well", "limit"]) fun _ _ _ _ _ _ us hl => match us, hl with | [_, _], _ => rfl,
    g__law_odd_text := PySem.W.mg_of X G a__law_odd_text,
    F__law_odd_text := fun_mk (st := s__law_odd_text) l__law_odd_text c__law_odd_text k__law_odd_text,
    b__law_odd_text := (fun_mk (st := s__law_odd_text) l__law_odd_text c__law_odd_text k__law_odd_text).binds (ps := ["well"]) fun _ _ _ _ _ _ us hl => match us, hl with | [_], _ => rfl,
    g__law_signed := PySem.W.mg_of X G a__law_signed,
    F__law_signed := fun_mk (st := s__law_signed) l__law_signed c__law_signed k__law_signed,
    b__law_signed := (fun_mk (st := s__law_signed) l__law_signed c__law_signed k__law_signed).binds (ps := ["well", "digits"]) fun _ _ _ _ _ _ us hl => match us, hl with | [_, _], _ => rfl,
    g__law_char := PySem.W.mg_of X G a__law_char,
    F__law_char := fun_mk (st := s__law_char) l__law_char c__law_char k__law_char,
    b__law_char := (fun_mk (st := s__law_char) l__law_char c__law_char k__law_char).binds (ps := ["well"]) fun _ _ _ _ _ _ us hl => match us, hl with | [_], _ => rfl,
    g__law_spoilt := PySem.W.mg_of X G a__law_spoilt,
    F__law_spoilt := fun_mk (st := s__law_spoilt) l__law_spoilt c__law_spoilt k__law_spoilt,
    b__law_spoilt := (fun_mk (st := s__law_spoilt) l__law_spoilt c__law_spoilt k__law_spoilt).binds (ps := ["well", "text"]) fun _ _ _ _ _ _ us hl => match us, hl with | [_, _], _ => rfl,
    g__law_case := PySem.W.mg_of X G a__law_case,
    F__law_case := fun_mk (st := s__law_case) l__law_case c__law_case k__law_case,
    b__law_case := (fun_mk (st := s__law_case) l__law_case c__law_case k__law_case).binds (ps := ["well"]) fun _ _ _ _ _ _ us hl => match us, hl with | [_], _ => rfl,
    g__law_integers := PySem.W.mg_of X G a__law_integers,
    F__law_integers := fun_mk (st := s__law_integers) l__law_integers c__law_integers k__law_integers,
    b__law_integers := (fun_mk (st := s__law_integers) l__law_integers c__law_integers k__law_integers).binds (ps := ["told"]) fun _ _ _ _ _ _ us hl => match us, hl with | [_], _ => rfl,
    me_SquareError___init__ := ⟨a_SquareError___init__, i_SquareError___init__, k_SquareError___init__⟩,
    F_SquareError___init__ := fun_mk (st := s_SquareError___init__) l_SquareError___init__ c_SquareError___init__ k_SquareError___init__,
    b_SquareError___init__ := (fun_mk (st := s_SquareError___init__) l_SquareError___init__ c_SquareError___init__ k_SquareError___init__).binds (ps := ["self", "value"]) fun _ _ _ _ _ _ us hl => match us, hl with | [_, _], _ => rfl,
    g__integer := PySem.W.mg_of X G a__integer,
    F__integer := fun_mk (st := s__integer) l__integer c__integer k__integer,
    b__integer := (fun_mk (st := s__integer) l__integer c__integer k__integer).binds (ps := ["text"]) fun _ _ _ _ _ _ us hl => match us, hl with | [_], _ => rfl,
    g__integers := PySem.W.mg_of X G a__integers,
    F__integers := fun_mk (st := s__integers) l__integers c__integers k__integers,
    b__integers := (fun_mk (st := s__integers) l__integers c__integers k__integers).binds (ps := ["words"]) fun _ _ _ _ _ _ us hl => match us, hl with | [_], _ => rfl,
    g_read_square := PySem.W.mg_of X G a_read_square,
    F_read_square := fun_mk (st := s_read_square) l_read_square c_read_square k_read_square,
    b_read_square := (fun_mk (st := s_read_square) l_read_square c_read_square k_read_square).binds (ps := ["text"]) fun _ _ _ _ _ _ us hl => match us, hl with | [_], _ => rfl,
    g_show_square := PySem.W.mg_of X G a_show_square,
    F_show_square := fun_mk (st := s_show_square) l_show_square c_show_square k_show_square,
    b_show_square := (fun_mk (st := s_show_square) l_show_square c_show_square k_show_square).binds (ps := ["rows"]) fun _ _ _ _ _ _ us hl => match us, hl with | [_], _ => rfl,
    g__law_long_right := PySem.W.mg_of X G a__law_long_right,
    F__law_long_right := fun_mk (st := s__law_long_right) l__law_long_right c__law_long_right k__law_long_right,
    b__law_long_right := (fun_mk (st := s__law_long_right) l__law_long_right c__law_long_right k__law_long_right).binds (ps := ["well"]) fun _ _ _ _ _ _ us hl => match us, hl with | [_], _ => rfl,
    g__law_base := PySem.W.mg_of X G a__law_base,
    F__law_base := fun_mk (st := s__law_base) l__law_base c__law_base k__law_base,
    b__law_base := (fun_mk (st := s__law_base) l__law_base c__law_base k__law_base).binds (ps := ["text"]) fun _ _ _ _ _ _ us hl => match us, hl with | [_], _ => rfl,
    g__law_read := PySem.W.mg_of X G a__law_read,
    F__law_read := fun_mk (st := s__law_read) l__law_read c__law_read k__law_read,
    b__law_read := (fun_mk (st := s__law_read) l__law_read c__law_read k__law_read).binds (ps := ["text"]) fun _ _ _ _ _ _ us hl => match us, hl with | [_], _ => rfl,
    g__law_word := PySem.W.mg_of X G a__law_word,
    F__law_word := fun_mk (st := s__law_word) l__law_word c__law_word k__law_word,
    b__law_word := (fun_mk (st := s__law_word) l__law_word c__law_word k__law_word).binds (ps := ["word"]) fun _ _ _ _ _ _ us hl => match us, hl with | [_], _ => rfl,
    g__law_words := PySem.W.mg_of X G a__law_words,
    F__law_words := fun_mk (st := s__law_words) l__law_words c__law_words k__law_words,
    b__law_words := (fun_mk (st := s__law_words) l__law_words c__law_words k__law_words).binds (ps := ["words"]) fun _ _ _ _ _ _ us hl => match us, hl with | [_], _ => rfl,
    g__law_square := PySem.W.mg_of X G a__law_square,
    F__law_square := fun_mk (st := s__law_square) l__law_square c__law_square k__law_square,
    b__law_square := (fun_mk (st := s__law_square) l__law_square c__law_square k__law_square).binds (ps := ["text"]) fun _ _ _ _ _ _ us hl => match us, hl with | [_], _ => rfl,
    g__law_right := PySem.W.mg_of X G a__law_right,
    F__law_right := fun_mk (st := s__law_right) l__law_right c__law_right k__law_right,
    b__law_right := (fun_mk (st := s__law_right) l__law_right c__law_right k__law_right).binds (ps := ["text"]) fun _ _ _ _ _ _ us hl => match us, hl with | [_], _ => rfl,
    g__law_well := PySem.W.mg_of X G a__law_well,
    F__law_well := fun_mk (st := s__law_well) l__law_well c__law_well k__law_well,
    b__law_well := (fun_mk (st := s__law_well) l__law_well c__law_well k__law_well).binds (ps := ["script", "k"]) fun _ _ _ _ _ _ us hl => match us, hl with | [_, _], _ => rfl,
    g_law := PySem.W.mg_of X G a_law,
    F_law := fun_mk (st := s_law) l_law c_law k_law,
    b_law := (fun_mk (st := s_law) l_law c_law k_law).binds (ps := ["script"]) fun _ _ _ _ _ _ us hl => match us, hl with | [_], _ => rfl,
    z_bool := PySem.W.mg_none_of X G zz_bool,
    z_int := PySem.W.mg_none_of X G zz_int,
    z_isinstance := PySem.W.mg_none_of X G zz_isinstance,
    z_len := PySem.W.mg_none_of X G zz_len,
    z_list := PySem.W.mg_none_of X G zz_list,
    z_max := PySem.W.mg_none_of X G zz_max,
    z_min := PySem.W.mg_none_of X G zz_min,
    z_range := PySem.W.mg_none_of X G zz_range,
    z_str := PySem.W.mg_none_of X G zz_str,
    er_Unreadable := ⟨⟨⟨_, _, _, _, _, _, _, _, _, _, _, _, _, _, _, xL_Unreadable, by rfl⟩, sa_Unreadable, eC_Unreadable, tC_Unreadable, kC_Unreadable⟩, ⟨ga_Unreadable, gg_Unreadable, eC_Unreadable, hd_Unreadable⟩, ⟨ga_Unreadable, gg_Unreadable, eC_Unreadable, hd_Unreadable, ca_Unreadable, hcn_err, hct_err, cm_Unreadable⟩⟩,
    vn_Unreadable := hvn_Unreadable,
    ii_Unreadable := hii_Unreadable,
    ti_Unreadable := t_SquareError___init__,
    em_Unreadable_Unreadable := PySem.W.exm_ref eC_Unreadable hd_Unreadable tC_Unreadable hsb_Unreadable_Unreadable,
    em_Unreadable_SquareError := PySem.W.exm_ref eC_SquareError hd_SquareError tC_SquareError hsb_Unreadable_SquareError,
    kv_Unreadable := kit_ve hkv_Unreadable }
  exact ⟨T.fd_law, fun s v => .of_eq rfl, fun base _ _ => (ok_law T).imp (law_imp T)⟩
theorem walk {l : PySem.W.OpenLaw} {q : Program} {loose : List Str} {XP : (Str → Option Value) → Heap → Prop} {YP : World → Heap → Prop} {d : DefRec} {K : Params → PySem.W.Frag} (hn : l.most = some 63) (hdf : d.params.defaults = [])
    (hY : ∀ (w : World) (h : Heap), YP w h → (K w.params).In h)
    (F : ∀ (w : World) (mg : Str → Option Value) (fa : Addr) (h : Heap), (K w.params).In h → h.Ns mainGlobals mg → mg d.name = some (.ref fa) →
      ∃ fd : FuncData, (∀ (s : Shared) (u : Value), BindsTo s fd ⟨[u], []⟩ [("script", u)]) ∧ ∀ base : Heap, (K w.params).In base → base.Ns mainGlobals mg → FnOk l.prog w (K w.params) mg base CX0 6 fa fd ["script"] (spLaw (K w.params))) :
    PySem.W.WalkO q loose XP YP l.row.toRowW d [] (fun f vs => PySem.call f vs) :=
  L2.walk_of (n := 63) (k := 6) (x := "script") (CX := fun _ => CX0) (sp := fun w => spLaw (K w.params)) hn (by decide) hdf ⟨rfl, by decide, by decide⟩ hY F (fun _ _ a ns hl _ hS => ⟨a, ns, rfl, hS, hl, fun _ => rfl⟩) fun _ _ _ _ _ z => z
end Law

open PySem PySem.W PyProof.Rows in
set_option maxRecDepth 100000 in
set_option maxHeartbeats 0 in
theorem PySem.Challenge.cw_rulesquares_k69_squares_are_read_holds : PySem.Challenge.rw_rulesquares_k69_squares_are_read.Holds := by
  w_on; o_law; k_head; (case hw => w_witness2)
  k_fill
  refine Law.walk (l := PySem.Challenge.rw_rulesquares_k69_squares_are_read) rfl rfl (fun w h Y => PySem.W.kIn_of Y) ?F
  case F =>
    intro w mg fa h KX G hmg
    refine' Law.all_mk KX G hmg ?aC_SquareError ?aC_Unreadable ?a__law_dip ?l__law_dip ?c__law_dip ?k__law_dip ?a__law_great ?l__law_great ?c__law_great ?k__law_great ?a__law_odd_text ?l__law_odd_text ?c__law_odd_text ?k__law_odd_text ?a__law_signed ?l__law_signed ?c__law_signed ?k__law_signed ?a__law_char ?l__law_char ?c__law_char ?k__law_char ?a__law_spoilt ?l__law_spoilt ?c__law_spoilt ?k__law_spoilt ?a__law_case ?l__law_case ?c__law_case ?k__law_case ?a__law_integers ?l__law_integers ?c__law_integers ?k__law_integers ?a_SquareError___init__ ?i_SquareError___init__ ?t_SquareError___init__ ?l_SquareError___init__ ?c_SquareError___init__ ?k_SquareError___init__ ?a__integer ?l__integer ?c__integer ?k__integer ?a__integers ?l__integers ?c__integers ?k__integers ?a_read_square ?l_read_square ?c_read_square ?k_read_square ?a_show_square ?l_show_square ?c_show_square ?k_show_square ?a__law_long_right ?l__law_long_right ?c__law_long_right ?k__law_long_right ?a__law_base ?l__law_base ?c__law_base ?k__law_base ?a__law_read ?l__law_read ?c__law_read ?k__law_read ?a__law_word ?l__law_word ?c__law_word ?k__law_word ?a__law_words ?l__law_words ?c__law_words ?k__law_words ?a__law_square ?l__law_square ?c__law_square ?k__law_square ?a__law_right ?l__law_right ?c__law_right ?k__law_right ?a__law_well ?l__law_well ?c__law_well ?k__law_well ?a_law ?l_law ?c_law ?k_law ?zz_bool ?zz_int ?zz_isinstance ?zz_len ?zz_list ?zz_max ?zz_min ?zz_range ?zz_str ?xL_Unreadable ?sa_Unreadable ?eC_Unreadable ?tC_Unreadable ?kC_Unreadable ?ga_Unreadable ?gg_Unreadable ?hd_Unreadable ?ca_Unreadable ?hcn_err ?hct_err ?cm_Unreadable ?hvn_Unreadable ?hii_Unreadable ?hsb_Unreadable_Unreadable ?eC_SquareError ?tC_SquareError ?hd_SquareError ?hsb_Unreadable_SquareError ?hkv_Unreadable
    (case aC_SquareError => k_is)
    (case aC_Unreadable => k_is)
    (case a__law_dip => k_is)
    (case l__law_dip => k_is)
    (case c__law_dip => k_is)
    (case k__law_dip => k_is)
    (case a__law_great => k_is)
    (case l__law_great => k_is)
    (case c__law_great => k_is)
    (case k__law_great => k_is)
    (case a__law_odd_text => k_is)
    (case l__law_odd_text => k_is)
    (case c__law_odd_text => k_is)
    (case k__law_odd_text => k_is)
    (case a__law_signed => k_is)
    (case l__law_signed => k_is)
    (case c__law_signed => k_is)
    (case k__law_signed => k_is)
    (case a__law_char => k_is)
    (case l__law_char => k_is)
    (case c__law_char => k_is)
    (case k__law_char => k_is)
    (case a__law_spoilt => k_is)
    (case l__law_spoilt => k_is)
    (case c__law_spoilt => k_is)
    (case k__law_spoilt => k_is)
    (case a__law_case => k_is)
    (case l__law_case => k_is)
    (case c__law_case => k_is)
    (case k__law_case => k_is)
    (case a__law_integers => k_is)
    (case l__law_integers => k_is)
    (case c__law_integers => k_is)
    (case k__law_integers => k_is)
    (case a_SquareError___init__ => k_is)
    (case i_SquareError___init__ => k_is)
    (case t_SquareError___init__ => k_is)
    (case l_SquareError___init__ => k_is)
    (case c_SquareError___init__ => k_is)
    (case k_SquareError___init__ => k_is)
    (case a__integer => k_is)
    (case l__integer => k_is)
    (case c__integer => k_is)
    (case k__integer => k_is)
    (case a__integers => k_is)
    (case l__integers => k_is)
    (case c__integers => k_is)
    (case k__integers => k_is)
    (case a_read_square => k_is)
    (case l_read_square => k_is)
    (case c_read_square => k_is)
    (case k_read_square => k_is)
    (case a_show_square => k_is)
    (case l_show_square => k_is)
    (case c_show_square => k_is)
    (case k_show_square => k_is)
    (case a__law_long_right => k_is)
    (case l__law_long_right => k_is)
    (case c__law_long_right => k_is)
    (case k__law_long_right => k_is)
    (case a__law_base => k_is)
    (case l__law_base => k_is)
    (case c__law_base => k_is)
    (case k__law_base => k_is)
    (case a__law_read => k_is)
    (case l__law_read => k_is)
    (case c__law_read => k_is)
    (case k__law_read => k_is)
    (case a__law_word => k_is)
    (case l__law_word => k_is)
    (case c__law_word => k_is)
    (case k__law_word => k_is)
    (case a__law_words => k_is)
    (case l__law_words => k_is)
    (case c__law_words => k_is)
    (case k__law_words => k_is)
    (case a__law_square => k_is)
    (case l__law_square => k_is)
    (case c__law_square => k_is)
    (case k__law_square => k_is)
    (case a__law_right => k_is)
    (case l__law_right => k_is)
    (case c__law_right => k_is)
    (case k__law_right => k_is)
    (case a__law_well => k_is)
    (case l__law_well => k_is)
    (case c__law_well => k_is)
    (case k__law_well => k_is)
    (case a_law => k_is)
    (case l_law => k_is)
    (case c_law => k_is)
    (case k_law => k_is)
    (case zz_bool => k_is)
    (case zz_int => k_is)
    (case zz_isinstance => k_is)
    (case zz_len => k_is)
    (case zz_list => k_is)
    (case zz_max => k_is)
    (case zz_min => k_is)
    (case zz_range => k_is)
    (case zz_str => k_is)
    (case xL_Unreadable => k_is)
    (case sa_Unreadable => k_is)
    (case eC_Unreadable => k_is)
    (case tC_Unreadable => k_is)
    (case kC_Unreadable => k_is)
    (case ga_Unreadable => k_is)
    (case gg_Unreadable => k_is)
    (case hd_Unreadable => k_is)
    (case ca_Unreadable => k_is)
    (case hcn_err => k_is)
    (case hct_err => k_is)
    (case cm_Unreadable => k_is)
    (case hvn_Unreadable => k_is)
    (case hii_Unreadable => k_is)
    (case hsb_Unreadable_Unreadable => first | k_is | rfl)
    (case eC_SquareError => k_is)
    (case tC_SquareError => k_is)
    (case hd_SquareError => k_is)
    (case hsb_Unreadable_SquareError => first | k_is | rfl)
    (case hkv_Unreadable => k_is)
