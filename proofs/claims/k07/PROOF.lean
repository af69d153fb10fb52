import PyProof.Rows.All
import Wide.All
import OpenK.AllK
import Wide.FinOn
import HandS.ForMost
import HandS.Wide
import HandS.Property
import HandS.Defaults
import HandS.MakeKw
import HandS.MakeKwOnly
import HandS.Flow
import HandS.IsInst
import HandS.Gcd
import HandS.Conv
import HandS.TryOnly
import HandS.Style
import HandS.SortInts
import HandS.DictComp
import KE.KOpsOwn
import HandS.SlotsOwn
import PyProof.InstNe
import HandS.TryMany
import HandS.ExcInit
import HandS.ExcField
import HandS.ExcIs
import HandS.ExcOwn
import HandS.WordsExc
import KE.KExcIs
import HandS.Zip
import HandS.EndBits
import KE.RegMulBits
import HandS.Walk
import HandS.WideBits
import HandS.TupLe
import HandS.FStr
import HandS.Text
import PyProof.FitsInt
import PyProof.Rows.FinIter
import PyProof.Rows.StrSplitJoin
import HandS.Codes
import HandS.StrMore
import KE.IntTextLaws
import HandS.Deep
import PyProof.SumAny
import PyProof.RangeIter
import PyProof.WalksMore
import HandS.SetFor
import HandS.Small
import HandS.Iter
import HandS.WordsDict
import PySem.Challenge.RW_rulesquares_k07_how_joined_calendars_are
set_option Elab.async false
set_option linter.all false
set_option maxRecDepth 100000
set_option maxHeartbeats 2000000
/-! A layer of our own over HandS: every reading's rest has a name, and one tactic goes through it step by step. -/
namespace L3
open PySem L2 PyProof.Rows

/-! ### heaps -/
/-- all that was tracked but p is as it was -/
def SB (p : Addr) (H H' : Hp) : Prop := ∀ a o, a ≠ p → H a = some o → H' a = some o
/-- not tracked -/
structure Fr (H : Hp) (q : Addr) : Prop where
  out : H q = none
theorem tr_same {H H' : Hp} {a : Addr} {o : HO} (e : Same H H') (h : H a = some o) : H' a = some o := e a o h
theorem tr_but {H H' : Hp} {a p : Addr} {o : HO} (e : SB p H H') (n : a ≠ p) (h : H a = some o) : H' a = some o := e a o n h
theorem ne_new {H : Hp} {q p : Addr} {o : HO} (h : Fr H q) (h' : H p = some o) : q ≠ p := fun e => by have h := h.out; rw [e, h'] at h; cases h
theorem ne_new' {H : Hp} {q p : Addr} {o : HO} (h : Fr H q) (h' : H p = some o) : p ≠ q := fun e => by have h := h.out; rw [← e, h'] at h; cases h
theorem same_upd {H : Hp} {p : Addr} {o : HO} (h : H p = none) : Same H (upd H p o) := fun b u e => by rw [upd_ne (ne_of_none e h)]; exact e
theorem sb_upd {H : Hp} {p : Addr} {o : HO} : SB p H (upd H p o) := fun b u n e => by rw [upd_ne n]; exact e
theorem SB.refl (p : Addr) (H : Hp) : SB p H H := fun _ _ _ h => h
theorem SB.trans {p : Addr} {H H1 H2 : Hp} (a : SB p H H1) (b : SB p H1 H2) : SB p H H2 := fun c o n h => b c o n (a c o n h)
theorem SB.of {p : Addr} {H H1 : Hp} (a : Same H H1) : SB p H H1 := fun c o _ h => a c o h
/-- new ahead, so what changed at p is nothing that was tracked -/
theorem SB.same {p : Addr} {H H1 H2 : Hp} (a : Same H H1) (h : Fr H p) (b : SB p H1 H2) : Same H H2 := fun c o q => b c o (ne_of_none q h.out) (a c o q)
theorem Same.back {H H1 : Hp} {p : Addr} (a : Same H H1) (h : H1 p = none) : H p = none := a.free h

/-! ### sizes of ints -/
def Sz (n : Nat) (i : Int) : Prop := i.natAbs < 2 ^ n
theorem Sz.mk {n : Nat} {i : Int} (h : i.natAbs < 2 ^ n) : Sz n i := h
theorem Sz.mul {a b : Nat} {i j : Int} (ha : Sz a i) (hb : Sz b j) : Sz (a + b) (i * j) := wide_lt ha hb
theorem Sz.add {a b : Nat} {i j : Int} (ha : Sz a i) (hb : Sz b j) : Sz (a + b + 1) (i + j) := by
  unfold Sz at *
  have h1 : (i + j).natAbs ≤ i.natAbs + j.natAbs := Int.natAbs_add_le i j
  have h2 : 2 ^ a ≤ 2 ^ (a + b) := Nat.pow_le_pow_right (by decide) (Nat.le_add_right _ _)
  have h3 : 2 ^ b ≤ 2 ^ (a + b) := Nat.pow_le_pow_right (by decide) (Nat.le_add_left _ _)
  rw [Nat.pow_succ]
  omega
theorem Sz.neg {a : Nat} {i : Int} (ha : Sz a i) : Sz a (-i) := by unfold Sz at *; rw [Int.natAbs_neg]; exact ha
theorem Sz.sub {a b : Nat} {i j : Int} (ha : Sz a i) (hb : Sz b j) : Sz (a + b + 1) (i - j) := by
  have := ha.add hb.neg
  rwa [← Int.sub_eq_add_neg] at this
theorem Sz.mono {a b : Nat} {i : Int} (ha : Sz a i) (h : a ≤ b) : Sz b i := Nat.lt_of_lt_of_le ha (Nat.pow_le_pow_right (by decide) h)
theorem Sz.le {a : Nat} {i j : Int} (h0 : 0 ≤ i) (h : i ≤ j) (hj : Sz a j) : Sz a i := by unfold Sz at *; omega
/-- an int between two bounds -/
theorem Sz.btw {a : Nat} {i m : Int} (h0 : -m ≤ i) (h : i ≤ m) (hj : Sz a m) : Sz a i := by unfold Sz at *; omega
theorem Sz.mod {a : Nat} {i j : Int} (h : 0 < j) (hj : Sz a j) : Sz a (i % j) := Sz.le (Int.emod_nonneg _ (by omega)) (Int.le_of_lt (Int.emod_lt_of_pos _ h)) hj
theorem Sz.div {a : Nat} {i j : Int} (h : 0 < j) (hi : 0 ≤ i) (ha : Sz a i) : Sz a (i / j) := Sz.le (Int.ediv_nonneg hi (by omega)) (Int.ediv_le_self _ hi) ha
theorem mul_ok {a b : Nat} {i j : Int} (ha : Sz a i) (hb : Sz b j) (h : a + b ≤ 999990) : IntMulOk i j :=
  (wide_mul (ha.mono (Nat.le_succ a)) (hb.mono (Nat.le_succ b)) (Nat.succ_pos _) (Nat.succ_pos _) (by omega)).ok
theorem mul_okl {i j : Int} (h : -(2 ^ 64) < i ∧ i < 2 ^ 64) : IntMulOk i j := CMul.ok (.inl h)
theorem mul_okr {i j : Int} (h : -(2 ^ 64) < j ∧ j < 2 ^ 64) : IntMulOk i j := CMul.ok (.inr h)
theorem div_ok {b : Nat} {i j : Int} (h : 0 < j) (hb : Sz b j) (h9 : b ≤ 8999) : CDivW i j := wide_div h (hb.mono (Nat.le_succ b)) (Nat.succ_pos _) (by omega)

section
variable {X : Cx}
/-! ### unions of operations -/
def rOr (r1 r2 : R2) : R2 := fun x y H Q => r1 x y H Q ∨ r2 x y H Q
theorem op_or2 {f : Value → Value → Sem Value} {r1 r2 : R2} (h1 : OpR X f r1) (h2 : OpR X f r2) : OpR X f (rOr r1 r2) := by
  rintro pins s σ H x y v u Q I rx ry (h | h)
  · exact h1 pins s σ H x y v u Q I rx ry h
  · exact h2 pins s σ H x y v u Q I rx ry h
def rAddI : R2 := rI0 fun i j => .int (i + j)
def rAddS : R2 := fun x y H Q => ∃ i j, x = .str i ∧ y = .str j ∧ i.length + j.length ≤ sizeLine ∧ Q (.str (i ++ j)) H
def rCatS (K : PySem.W.Frag) : R2 := fun x y H Q => ∃ l b xs zs, x = .ref l ∧ y = .ref b ∧ H l = some (.lst xs) ∧ H b = some (.lst zs) ∧ xs.length + zs.length ≤ sizeLine ∧ ∀ p, H p = none → Q (.ref p) (upd H p (.lst (xs ++ zs)))
theorem op_addI : OpR X (binaryOp .Add) rAddI := op_add
theorem op_addS : OpR X (binaryOp .Add) rAddS := op_add_str
theorem op_addU : OpR X (binaryOp .Add) (rOr rAddI (rOr rCat (rOr rAddS (rCatT X.K)))) := op_or2 op_addI (op_or2 op_cat (op_or2 op_addS op_catT))
def rSubI : R2 := rI0 fun i j => .int (i - j)
theorem op_subU : OpR X (binaryOp .Sub) rSubI := op_sub
def rMulI : R2 := rI IntMulOk fun i j => .int (i * j)
theorem op_mulI : OpR X (binaryOp .Mult) rMulI := opI fun _ _ _ _ _ _ _ hc q => mul_int q hc
theorem op_mulU : OpR X (binaryOp .Mult) (rOr rMulI rRep) := op_or2 op_mulI op_rep
def CMod (_ j : Int) : Prop := 0 < j
def rModI : R2 := rI CMod fun i j => .int (i % j)
theorem op_modU : OpR X (binaryOp .Mod) rModI := op_mod
def rDivI : R2 := rI CDivW fun i j => .int (i / j)
theorem op_fdivU : OpR X (binaryOp .FloorDiv) rDivI := op_fdivW
def rPowI : R2 := rI CPow fun i j => .int (i ^ j.toNat)
theorem op_powU : OpR X (binaryOp .Pow) rPowI := op_pow
theorem op_eqU (hu : X.A.units + 64 < cLine) : OpR X (compareOp .Eq) (rOr rEq (rEqD X.K)) := op_or2 op_eq (op_eqD hu)
theorem op_neU (hu : X.A.units + 64 < cLine) : OpR X (compareOp .NotEq) (rOr rNe (rNeD X.K)) := op_or2 op_ne (op_neD hu)
def rLtI : R2 := rI0 fun i j => .bl (decide (i < j))
def rLeI : R2 := rI0 fun i j => .bl (decide (i ≤ j))
def rGtI : R2 := rI0 fun i j => .bl (decide (j < i))
def rGeI : R2 := rI0 fun i j => .bl (decide (j ≤ i))
theorem op_ltU : OpR X (compareOp .Lt) rLtI := op_lt
theorem op_leU : OpR X (compareOp .LtE) rLeI := op_le
theorem op_gtU : OpR X (compareOp .Gt) rGtI := op_gt
theorem op_geU : OpR X (compareOp .GtE) rGeI := op_ge
def rIsN' : R2 := fun x y H Q => y = .non ∧ Q (.bl (decide (x = .non))) H
def rNotN' : R2 := fun x y H Q => y = .non ∧ Q (.bl (!decide (x = .non))) H
theorem op_isU : OpR X (compareOp .Is) rIsN' := op_isN
theorem op_isnotU : OpR X (compareOp .IsNot) rNotN' := op_notN
end

/-! ### what is left behind a step, named -/
section
variable {K : PySem.W.Frag} {C a p dx : Addr} {σ : L2.St} {H : Hp} {Q : VK} {D : Ends} {nx bk ct : L2.St → Hp → Prop} {rt : VK} {t u : TS} {te ta tb tc : TE} {c d : TT} {r r1 r2 : R2} {g : TG} {i j : Int} {x y v : V} {b : Bool} {P : Prop} {xs ys : List V} {fs : List (Str × V)} {f : Str} {sp : Sp} {E : XK} {tas : TA}

def IfS (b : Bool) (t u : TS) (D : Ends) (σ : L2.St) (H : Hp) : Prop := if b = true then t D σ H else u D σ H
theorem st_eq {σ' : L2.St} {t : TS} (e : σ = σ') (h : t D σ' H) : t D σ H := e ▸ h
theorem g_seq (h : t ⟨u ⟨nx, rt, bk, ct⟩, rt, bk, ct⟩ σ H) : tSeq t u ⟨nx, rt, bk, ct⟩ σ H := h
theorem g_next (h : nx σ H) : tNext ⟨nx, rt, bk, ct⟩ σ H := h
theorem g_brk (h : bk σ H) : tBreak ⟨nx, rt, bk, ct⟩ σ H := h
theorem g_cont (h : ct σ H) : tCont ⟨nx, rt, bk, ct⟩ σ H := h
theorem g_asg (h : te σ H fun x H1 => g x σ H1 nx) : tAsg te g ⟨nx, rt, bk, ct⟩ σ H := h
theorem g_ret (h : te σ H rt) : tRet te ⟨nx, rt, bk, ct⟩ σ H := h
theorem g_retN (h : rt .non H) : tRetN ⟨nx, rt, bk, ct⟩ σ H := h
theorem g_drop (h : te σ H fun _ H1 => nx σ H1) : tDrop te ⟨nx, rt, bk, ct⟩ σ H := h
theorem g_ifs (h : c σ H fun b H1 => IfS b t u ⟨nx, rt, bk, ct⟩ σ H1) : tIfS c t u ⟨nx, rt, bk, ct⟩ σ H := h
theorem ifs_T (h : t D σ H) : IfS true t u D σ H := h
theorem ifs_F (h : u D σ H) : IfS false t u D σ H := h
theorem ifs_y {dP : Decidable P} (e : P) (h : t D σ H) : IfS (decide P) t u D σ H := by rw [decide_eq_true e]; exact h
theorem ifs_n {dP : Decidable P} (e : ¬ P) (h : u D σ H) : IfS (decide P) t u D σ H := by rw [decide_eq_false e]; exact h
theorem ifs_2 {dP : Decidable P} (h1 : P → t D σ H) (h2 : ¬ P → u D σ H) : IfS (decide P) t u D σ H := by
  by_cases h : P
  · exact ifs_y h (h1 h)
  · exact ifs_n h (h2 h)
theorem ifs_b (h1 : b = true → t D σ H) (h2 : b = false → u D σ H) : IfS b t u D σ H := by
  cases b
  · exact h2 rfl
  · exact h1 rfl
theorem ifs_not (h : IfS b u t D σ H) : IfS (!b) t u D σ H := by
  cases b
  · exact h
  · exact h

/-! tests -/
def BlR (x : V) (H : Hp) (Q : Bool → Hp → Prop) : Prop := ∃ k, x = .bl k ∧ Q k H
theorem g_test {Q : Bool → Hp → Prop} (h : te σ H fun x H1 => BlR x H1 Q) : tTest te σ H Q := h
theorem g_tb {Q : Bool → Hp → Prop} (h : te σ H fun x H1 => BlR x H1 Q) : tB te σ H Q := h
theorem g_bl {Q : Bool → Hp → Prop} (h : Q b H) : BlR (.bl b) H Q := ⟨b, rfl, h⟩
def AndR (b : Bool) (u : TT) (σ : L2.St) (H : Hp) (Q : Bool → Hp → Prop) : Prop := if b = true then u σ H Q else Q false H
def OrR (b : Bool) (u : TT) (σ : L2.St) (H : Hp) (Q : Bool → Hp → Prop) : Prop := if b = true then Q true H else u σ H Q
def NotR (b : Bool) (H : Hp) (Q : Bool → Hp → Prop) : Prop := Q (!b) H
theorem g_tand {Q : Bool → Hp → Prop} (h : c σ H fun b H1 => AndR b d σ H1 Q) : tAnd c d σ H Q := h
theorem g_tor {Q : Bool → Hp → Prop} (h : c σ H fun b H1 => OrR b d σ H1 Q) : tOr c d σ H Q := h
theorem g_tnot {Q : Bool → Hp → Prop} (h : c σ H fun b H1 => NotR b H1 Q) : tNot c σ H Q := h
theorem and_T {Q : Bool → Hp → Prop} (h : d σ H Q) : AndR true d σ H Q := h
theorem and_F {Q : Bool → Hp → Prop} (h : Q false H) : AndR false d σ H Q := h
theorem and_y {Q : Bool → Hp → Prop} {dP : Decidable P} (e : P) (h : d σ H Q) : AndR (decide P) d σ H Q := by rw [decide_eq_true e]; exact h
theorem and_n {Q : Bool → Hp → Prop} {dP : Decidable P} (e : ¬ P) (h : Q false H) : AndR (decide P) d σ H Q := by rw [decide_eq_false e]; exact h
theorem and_2 {Q : Bool → Hp → Prop} {dP : Decidable P} (h1 : P → d σ H Q) (h2 : ¬ P → Q false H) : AndR (decide P) d σ H Q := by
  by_cases h : P
  · exact and_y h (h1 h)
  · exact and_n h (h2 h)
theorem and_b {Q : Bool → Hp → Prop} (h1 : b = true → d σ H Q) (h2 : b = false → Q false H) : AndR b d σ H Q := by
  cases b
  · exact h2 rfl
  · exact h1 rfl
theorem or_T {Q : Bool → Hp → Prop} (h : Q true H) : OrR true d σ H Q := h
theorem or_F {Q : Bool → Hp → Prop} (h : d σ H Q) : OrR false d σ H Q := h
theorem or_y {Q : Bool → Hp → Prop} {dP : Decidable P} (e : P) (h : Q true H) : OrR (decide P) d σ H Q := by rw [decide_eq_true e]; exact h
theorem or_n {Q : Bool → Hp → Prop} {dP : Decidable P} (e : ¬ P) (h : d σ H Q) : OrR (decide P) d σ H Q := by rw [decide_eq_false e]; exact h
theorem or_2 {Q : Bool → Hp → Prop} {dP : Decidable P} (h1 : P → Q true H) (h2 : ¬ P → d σ H Q) : OrR (decide P) d σ H Q := by
  by_cases h : P
  · exact or_y h (h1 h)
  · exact or_n h (h2 h)
theorem or_b {Q : Bool → Hp → Prop} (h1 : b = true → Q true H) (h2 : b = false → d σ H Q) : OrR b d σ H Q := by
  cases b
  · exact h2 rfl
  · exact h1 rfl
theorem not_T {Q : Bool → Hp → Prop} (h : Q false H) : NotR true H Q := h
theorem not_F {Q : Bool → Hp → Prop} (h : Q true H) : NotR false H Q := h
theorem not_y {Q : Bool → Hp → Prop} {dP : Decidable P} (e : P) (h : Q false H) : NotR (decide P) H Q := by rw [decide_eq_true e]; exact h
theorem not_n {Q : Bool → Hp → Prop} {dP : Decidable P} (e : ¬ P) (h : Q true H) : NotR (decide P) H Q := by rw [decide_eq_false e]; exact h
theorem not_b {Q : Bool → Hp → Prop} (h : Q (!b) H) : NotR b H Q := h
/-- a value's truth -/
def TruR (K : PySem.W.Frag) (x : V) (H : Hp) (Q : Bool → Hp → Prop) : Prop := ∃ k, TruV K x H k ∧ Q k H
def tTr (K : PySem.W.Frag) (te : TE) : TT := fun σ H Q => te σ H fun x H' => TruR K x H' Q
theorem g_ttr {Q : Bool → Hp → Prop} (h : te σ H fun x H1 => TruR K x H1 Q) : tTr K te σ H Q := h
theorem tru_bl {Q : Bool → Hp → Prop} (h : Q b H) : TruR K (.bl b) H Q := ⟨b, rfl, h⟩
theorem tru_int {Q : Bool → Hp → Prop} (h : Q (decide (i ≠ 0)) H) : TruR K (.int i) H Q := ⟨_, rfl, by
  have e : (i != 0) = decide (i ≠ 0) := by by_cases z : i = 0 <;> simp [z]
  rw [e]; exact h⟩
theorem tru_non {Q : Bool → Hp → Prop} (h : Q false H) : TruR K .non H Q := ⟨_, rfl, h⟩
theorem tru_lst {Q : Bool → Hp → Prop} (e : H a = some (.lst xs)) (h : Q (!xs.isEmpty) H) : TruR K (.ref a) H Q := ⟨_, .inl ⟨xs, SqL.of e, rfl⟩, h⟩
theorem tru_tup {Q : Bool → Hp → Prop} (e : H a = some (.tup xs)) (h : Q (!xs.isEmpty) H) : TruR K (.ref a) H Q := ⟨_, .inr (.inl ⟨xs, SqT.of e, rfl⟩), h⟩

/-! expressions -/
theorem g_c (h : Q v H) : tC v σ H Q := h
theorem g_op (h : ta σ H fun x H1 => tb σ H1 fun y H2 => r x y H2 Q) : tOp r ta tb σ H Q := h
theorem g_un {r : V → Hp → VK → Prop} (h : ta σ H fun x H1 => r x H1 Q) : tUn r ta σ H Q := h
theorem o_i0 {g : Int → Int → V} (h : Q (g i j) H) : rI0 g (.int i) (.int j) H Q := ⟨i, j, rfl, rfl, h⟩
theorem o_i {C : Int → Int → Prop} {g : Int → Int → V} (e : C i j) (h : Q (g i j) H) : rI C g (.int i) (.int j) H Q := ⟨i, j, rfl, rfl, e, h⟩
theorem o_u {g : Int → V} (h : Q (g i) H) : rU g (.int i) H Q := ⟨i, rfl, h⟩
theorem o_add (h : Q (.int (i + j)) H) : rAddI (.int i) (.int j) H Q := ⟨i, j, rfl, rfl, h⟩
theorem o_sub (h : Q (.int (i - j)) H) : rSubI (.int i) (.int j) H Q := ⟨i, j, rfl, rfl, h⟩
theorem o_mul (e : IntMulOk i j) (h : Q (.int (i * j)) H) : rMulI (.int i) (.int j) H Q := ⟨i, j, rfl, rfl, e, h⟩
theorem o_mod (e : 0 < j) (h : Q (.int (i % j)) H) : rModI (.int i) (.int j) H Q := ⟨i, j, rfl, rfl, e, h⟩
theorem o_div (e : CDivW i j) (h : Q (.int (i / j)) H) : rDivI (.int i) (.int j) H Q := ⟨i, j, rfl, rfl, e, h⟩
theorem o_pow {n : Nat} (e : CPow i n) (h : Q (.int (i ^ n)) H) : rPowI (.int i) (.int n) H Q := ⟨i, n, rfl, rfl, e, h⟩
theorem o_lt (h : Q (.bl (decide (i < j))) H) : rLtI (.int i) (.int j) H Q := ⟨i, j, rfl, rfl, h⟩
theorem o_le (h : Q (.bl (decide (i ≤ j))) H) : rLeI (.int i) (.int j) H Q := ⟨i, j, rfl, rfl, h⟩
theorem o_gt (h : Q (.bl (decide (j < i))) H) : rGtI (.int i) (.int j) H Q := ⟨i, j, rfl, rfl, h⟩
theorem o_ge (h : Q (.bl (decide (j ≤ i))) H) : rGeI (.int i) (.int j) H Q := ⟨i, j, rfl, rfl, h⟩
theorem o_or1 (h : r1 x y H Q) : rOr r1 r2 x y H Q := .inl h
theorem o_or2 (h : r2 x y H Q) : rOr r1 r2 x y H Q := .inr h
theorem o_eqI (h : Q (.bl (decide (i = j))) H) : rEq (.int i) (.int j) H Q := ⟨rfl, by
  have e : decide (V.int i = V.int j) = decide (i = j) := by by_cases z : i = j <;> simp [z]
  rw [e]; exact h⟩
theorem o_neI (h : Q (.bl (!decide (i = j))) H) : rNe (.int i) (.int j) H Q := ⟨rfl, by
  have e : decide (V.int i = V.int j) = decide (i = j) := by by_cases z : i = j <;> simp [z]
  rw [e]; exact h⟩
theorem o_eqV (e : scal x y = true) (h : Q (.bl (decide (x = y))) H) : rEq x y H Q := ⟨e, h⟩
theorem o_neV (e : scal x y = true) (h : Q (.bl (!decide (x = y))) H) : rNe x y H Q := ⟨e, h⟩
theorem o_isN (h : Q (.bl (decide (x = .non))) H) : rIsN' x .non H Q := ⟨rfl, h⟩
theorem o_notN (h : Q (.bl (!decide (x = .non))) H) : rNotN' x .non H Q := ⟨rfl, h⟩
theorem o_cat {l m : Addr} (h1 : H l = some (.lst xs)) (h2 : H m = some (.lst ys)) (hz : xs.length + ys.length ≤ 100000) (h : ∀ p H', Fr H p → Same H H' → H' p = some (.lst (xs ++ ys)) → Q (.ref p) H') : rCat (.ref l) (.ref m) H Q :=
  ⟨l, m, xs, ys, rfl, rfl, h1, h2, Nat.le_trans hz (by decide), fun p hp => h p _ ⟨hp⟩ (same_upd hp) upd_same⟩

/-- new objects -/
def AllocL (xs : List V) (H : Hp) (Q : VK) : Prop := xs.length ≤ sizeLine ∧ ∀ p, H p = none → Q (.ref p) (upd H p (.lst xs))
def AllocT (xs : List V) (H : Hp) (Q : VK) : Prop := xs.length ≤ sizeLine ∧ ∀ p, H p = none → Q (.ref p) (upd H p (.tup xs))
theorem g_lst (h : tas σ H fun xs H1 => AllocL xs H1 Q) : tLst tas σ H Q := h
theorem g_tup (h : tas σ H fun xs H1 => AllocT xs H1 Q) : tTup tas σ H Q := h
theorem al_l (hz : xs.length ≤ 100000) (h : ∀ p H', Fr H p → Same H H' → H' p = some (.lst xs) → Q (.ref p) H') : AllocL xs H Q := ⟨Nat.le_trans hz (by decide), fun p hp => h p _ ⟨hp⟩ (same_upd hp) upd_same⟩
theorem al_t (hz : xs.length ≤ 100000) (h : ∀ p H', Fr H p → Same H H' → H' p = some (.tup xs) → Q (.ref p) H') : AllocT xs H Q := ⟨Nat.le_trans hz (by decide), fun p hp => h p _ ⟨hp⟩ (same_upd hp) upd_same⟩
theorem g_nil {Q : List V → Hp → Prop} (h : Q [] H) : tNil σ H Q := h
theorem g_cons {Q : List V → Hp → Prop} (h : te σ H fun x H1 => tas σ H1 fun xs H2 => Q (x :: xs) H2) : tCons te tas σ H Q := h
/-- calls -/
theorem g_call (h : tas σ H fun vs H1 => sp vs H1 Q E) : tCall sp [] E tas σ H Q := by
  have e : (fun (vs : List V) (H1 : Hp) => sp vs H1 Q E) = fun vs H1 => sp (vs ++ []) H1 Q E := by funext vs H1; rw [List.append_nil]
  rw [e] at h
  exact h
def MethR (C : Addr) (m : Str) (sp : Sp) (E : XK) (t : TA) (σ : L2.St) (x : V) (H : Hp) (Q : VK) : Prop := ∃ a dx fs, x = .ref a ∧ H a = some (.ins C dx fs) ∧ fs.lookup m = none ∧ t σ H fun vs H2 => sp (x :: vs) H2 Q E
theorem g_meth {m : Str} (h : ta σ H fun x H1 => MethR C m sp E tas σ x H1 Q) : tMeth C m sp [] E ta tas σ H Q := by
  have e : (fun (x : V) (H1 : Hp) => MethR C m sp E tas σ x H1 Q) = fun x H1 => ∃ a dx fs, x = .ref a ∧ H1 a = some (.ins C dx fs) ∧ fs.lookup m = none ∧ tas σ H1 fun vs H2 => sp (x :: (vs ++ [])) H2 Q E := by
    funext x H1; simp only [List.append_nil]; rfl
  rw [e] at h
  exact h
theorem m_meth {m : Str} (h1 : H a = some (.ins C dx fs)) (hn : fs.lookup m = none) (h : tas σ H fun vs H2 => sp (.ref a :: vs) H2 Q E) : MethR C m sp E tas σ (.ref a) H Q := ⟨a, dx, fs, rfl, h1, hn, h⟩
def MakeR (C : Addr) (sp : Sp) (E : XK) (vs : List V) (H : Hp) (Q : VK) : Prop := ∀ x dx, H x = none → H dx = none → dx ≠ x → sp (.ref x :: vs) (upd (upd H dx (.own x)) x (.ins C dx [])) (fun v H2 => v = .non ∧ Q (.ref x) H2) E
theorem g_make (h : tas σ H fun vs H1 => MakeR C sp E vs H1 Q) : tMake C sp [] E tas σ H Q := by
  have e : (fun (vs : List V) (H1 : Hp) => MakeR C sp E vs H1 Q) = fun vs H1 => ∀ x dx, H1 x = none → H1 dx = none → dx ≠ x → sp (.ref x :: (vs ++ [])) (upd (upd H1 dx (.own x)) x (.ins C dx [])) (fun v H2 => v = .non ∧ Q (.ref x) H2) E := by
    funext vs H1; simp only [List.append_nil]; rfl
  rw [e] at h
  exact h
def FldR (K : PySem.W.Frag) (f : Str) (x : V) (H : Hp) (Q : VK) : Prop := ∃ a C dx fs v, x = .ref a ∧ H a = some (.ins C dx fs) ∧ Cls K C ∧ NoAttr K C f ∧ fs.lookup f = some v ∧ Q v H
theorem g_fld (h : ta σ H fun x H1 => FldR K f x H1 Q) : tFld K ta f σ H Q := h
theorem f_fld (h1 : H a = some (.ins C dx fs)) (hc : Cls K C) (hn : NoAttr K C f) (hl : fs.lookup f = some v) (h : Q v H) : FldR K f (.ref a) H Q := ⟨a, C, dx, fs, v, rfl, h1, hc, hn, hl, h⟩
def PropR (C : Addr) (sp : Sp) (E : XK) (x : V) (H : Hp) (Q : VK) : Prop := ∃ a dx fs, x = .ref a ∧ H a = some (.ins C dx fs) ∧ sp [.ref a] H Q E
theorem g_prop (h : ta σ H fun x H1 => PropR C sp E x H1 Q) : tProp C sp [] E ta σ H Q := h
theorem p_prop (h1 : H a = some (.ins C dx fs)) (h : sp [.ref a] H Q E) : PropR C sp E (.ref a) H Q := ⟨a, dx, fs, rfl, h1, h⟩
def StFld (K : PySem.W.Frag) (f : Str) (y x : V) (nx : L2.St → Hp → Prop) (σ : L2.St) (H : Hp) : Prop := ∃ a C dx fs, x = .ref a ∧ H a = some (.ins C dx fs) ∧ Cls K C ∧ NoAttr K C f ∧ fs.length < 1000 ∧ nx σ (upd H a (.ins C dx (putF f y fs)))
theorem g_sfld {tv : TE} (h : tv σ H fun y H1 => ta σ H1 fun x H2 => StFld K f y x nx σ H2) : sFld K ta tv f ⟨nx, rt, bk, ct⟩ σ H := h
theorem s_fld (h1 : H a = some (.ins C dx fs)) (hc : Cls K C) (hn : NoAttr K C f) (hl : fs.length < 1000) (h : nx σ (upd H a (.ins C dx (putF f y fs)))) : StFld K f y (.ref a) nx σ H := ⟨a, C, dx, fs, rfl, h1, hc, hn, hl, h⟩
theorem s_fldg (h1 : H a = some (.ins C dx fs)) (hc : Cls K C) (hn : NoAttr K C f) (hl : fs.length < 1000) (h : ∀ H', SB a H H' → H' a = some (.ins C dx (putF f y fs)) → nx σ H') : StFld K f y (.ref a) nx σ H := ⟨a, C, dx, fs, rfl, h1, hc, hn, hl, h _ sb_upd upd_same⟩
/-- subscripts -/
theorem ix_l {z : Int} (h1 : H a = some (.lst xs)) (h2 : atI xs z = some v) (h : Q v H) : rIx K (.ref a) (.int z) H Q := .inl ⟨a, xs, z, v, rfl, rfl, SqL.of h1, h2, h⟩
theorem ix_sq {z : Int} (h1 : SqL K H a xs) (h2 : atI xs z = some v) (h : Q v H) : rIx K (.ref a) (.int z) H Q := .inl ⟨a, xs, z, v, rfl, rfl, h1, h2, h⟩
theorem ix_t {z : Int} (h1 : H a = some (.tup xs)) (h2 : atI xs z = some v) (h : Q v H) : rIx K (.ref a) (.int z) H Q := .inr (.inl ⟨a, xs, z, v, rfl, rfl, SqT.of h1, h2, h⟩)
/-- targets -/
theorem g_gnil (h : nx σ H) : gNil [] σ H nx := ⟨rfl, h⟩
theorem g_gcons {t : TG} {u : TGs} (h : t v σ H fun σ' H' => u xs σ' H' nx) : gCons t u (v :: xs) σ H nx := ⟨v, xs, rfl, h⟩
theorem g_gtup {n : Nat} {t : TGs} (h1 : H a = some (.tup xs)) (hl : xs.length = n) (h : t xs σ H nx) : gTup K n t (.ref a) σ H nx := ⟨a, xs, rfl, SqT.of h1, hl, h⟩
def SetLR (o i v : V) (H : Hp) (Q : Hp → Prop) : Prop := rSetL o i v H Q
theorem g_gsub {to ti : TE} {t : TSet} (h : to σ H fun o H1 => ti σ H1 fun i H2 => t o i v H2 fun H3 => nx σ H3) : gSub to ti t v σ H nx := h
theorem s_setl {k : Int} {n : Nat} (h1 : H a = some (.lst xs)) (h2 : ixN xs.length k = some n) {Q : Hp → Prop} (h : ∀ H', SB a H H' → H' a = some (.lst (xs.set n v)) → Q H') : rSetL (.ref a) (.int k) v H Q :=
  ⟨a, xs, k, n, rfl, rfl, h1, h2, h _ sb_upd upd_same⟩
/-- built-in functions -/
theorem g_cb {r : List V → Hp → VK → Prop} (h : tas σ H fun vs H1 => r vs H1 Q) : tCB r tas σ H Q := h
end

/-! slots -/
section
variable {H : Hp} {Q : VK} {nx : L2.St → Hp → Prop} {v : V} {a0 a1 a2 a3 a4 a5 a6 a7 a8 a9 a10 a11 a12 a13 a14 a15 a16 a17 a18 a19 a20 : Option V} {r : L2.St}
theorem gv_0 (h : Q v H) : tVar 0 (some v :: r) H Q := ⟨v, rfl, h⟩
theorem gn_0 (h : nx (some v :: r) H) : gName 0 v (a0 :: r) H nx := h
theorem gv_1 (h : Q v H) : tVar 1 (a0 :: some v :: r) H Q := ⟨v, rfl, h⟩
theorem gn_1 (h : nx (a0 :: some v :: r) H) : gName 1 v (a0 :: a1 :: r) H nx := h
theorem gv_2 (h : Q v H) : tVar 2 (a0 :: a1 :: some v :: r) H Q := ⟨v, rfl, h⟩
theorem gn_2 (h : nx (a0 :: a1 :: some v :: r) H) : gName 2 v (a0 :: a1 :: a2 :: r) H nx := h
theorem gv_3 (h : Q v H) : tVar 3 (a0 :: a1 :: a2 :: some v :: r) H Q := ⟨v, rfl, h⟩
theorem gn_3 (h : nx (a0 :: a1 :: a2 :: some v :: r) H) : gName 3 v (a0 :: a1 :: a2 :: a3 :: r) H nx := h
theorem gv_4 (h : Q v H) : tVar 4 (a0 :: a1 :: a2 :: a3 :: some v :: r) H Q := ⟨v, rfl, h⟩
theorem gn_4 (h : nx (a0 :: a1 :: a2 :: a3 :: some v :: r) H) : gName 4 v (a0 :: a1 :: a2 :: a3 :: a4 :: r) H nx := h
theorem gv_5 (h : Q v H) : tVar 5 (a0 :: a1 :: a2 :: a3 :: a4 :: some v :: r) H Q := ⟨v, rfl, h⟩
theorem gn_5 (h : nx (a0 :: a1 :: a2 :: a3 :: a4 :: some v :: r) H) : gName 5 v (a0 :: a1 :: a2 :: a3 :: a4 :: a5 :: r) H nx := h
theorem gv_6 (h : Q v H) : tVar 6 (a0 :: a1 :: a2 :: a3 :: a4 :: a5 :: some v :: r) H Q := ⟨v, rfl, h⟩
theorem gn_6 (h : nx (a0 :: a1 :: a2 :: a3 :: a4 :: a5 :: some v :: r) H) : gName 6 v (a0 :: a1 :: a2 :: a3 :: a4 :: a5 :: a6 :: r) H nx := h
theorem gv_7 (h : Q v H) : tVar 7 (a0 :: a1 :: a2 :: a3 :: a4 :: a5 :: a6 :: some v :: r) H Q := ⟨v, rfl, h⟩
theorem gn_7 (h : nx (a0 :: a1 :: a2 :: a3 :: a4 :: a5 :: a6 :: some v :: r) H) : gName 7 v (a0 :: a1 :: a2 :: a3 :: a4 :: a5 :: a6 :: a7 :: r) H nx := h
theorem gv_8 (h : Q v H) : tVar 8 (a0 :: a1 :: a2 :: a3 :: a4 :: a5 :: a6 :: a7 :: some v :: r) H Q := ⟨v, rfl, h⟩
theorem gn_8 (h : nx (a0 :: a1 :: a2 :: a3 :: a4 :: a5 :: a6 :: a7 :: some v :: r) H) : gName 8 v (a0 :: a1 :: a2 :: a3 :: a4 :: a5 :: a6 :: a7 :: a8 :: r) H nx := h
theorem gv_9 (h : Q v H) : tVar 9 (a0 :: a1 :: a2 :: a3 :: a4 :: a5 :: a6 :: a7 :: a8 :: some v :: r) H Q := ⟨v, rfl, h⟩
theorem gn_9 (h : nx (a0 :: a1 :: a2 :: a3 :: a4 :: a5 :: a6 :: a7 :: a8 :: some v :: r) H) : gName 9 v (a0 :: a1 :: a2 :: a3 :: a4 :: a5 :: a6 :: a7 :: a8 :: a9 :: r) H nx := h
theorem gv_10 (h : Q v H) : tVar 10 (a0 :: a1 :: a2 :: a3 :: a4 :: a5 :: a6 :: a7 :: a8 :: a9 :: some v :: r) H Q := ⟨v, rfl, h⟩
theorem gn_10 (h : nx (a0 :: a1 :: a2 :: a3 :: a4 :: a5 :: a6 :: a7 :: a8 :: a9 :: some v :: r) H) : gName 10 v (a0 :: a1 :: a2 :: a3 :: a4 :: a5 :: a6 :: a7 :: a8 :: a9 :: a10 :: r) H nx := h
theorem gv_11 (h : Q v H) : tVar 11 (a0 :: a1 :: a2 :: a3 :: a4 :: a5 :: a6 :: a7 :: a8 :: a9 :: a10 :: some v :: r) H Q := ⟨v, rfl, h⟩
theorem gn_11 (h : nx (a0 :: a1 :: a2 :: a3 :: a4 :: a5 :: a6 :: a7 :: a8 :: a9 :: a10 :: some v :: r) H) : gName 11 v (a0 :: a1 :: a2 :: a3 :: a4 :: a5 :: a6 :: a7 :: a8 :: a9 :: a10 :: a11 :: r) H nx := h
theorem gv_12 (h : Q v H) : tVar 12 (a0 :: a1 :: a2 :: a3 :: a4 :: a5 :: a6 :: a7 :: a8 :: a9 :: a10 :: a11 :: some v :: r) H Q := ⟨v, rfl, h⟩
theorem gn_12 (h : nx (a0 :: a1 :: a2 :: a3 :: a4 :: a5 :: a6 :: a7 :: a8 :: a9 :: a10 :: a11 :: some v :: r) H) : gName 12 v (a0 :: a1 :: a2 :: a3 :: a4 :: a5 :: a6 :: a7 :: a8 :: a9 :: a10 :: a11 :: a12 :: r) H nx := h
theorem gv_13 (h : Q v H) : tVar 13 (a0 :: a1 :: a2 :: a3 :: a4 :: a5 :: a6 :: a7 :: a8 :: a9 :: a10 :: a11 :: a12 :: some v :: r) H Q := ⟨v, rfl, h⟩
theorem gn_13 (h : nx (a0 :: a1 :: a2 :: a3 :: a4 :: a5 :: a6 :: a7 :: a8 :: a9 :: a10 :: a11 :: a12 :: some v :: r) H) : gName 13 v (a0 :: a1 :: a2 :: a3 :: a4 :: a5 :: a6 :: a7 :: a8 :: a9 :: a10 :: a11 :: a12 :: a13 :: r) H nx := h
theorem gv_14 (h : Q v H) : tVar 14 (a0 :: a1 :: a2 :: a3 :: a4 :: a5 :: a6 :: a7 :: a8 :: a9 :: a10 :: a11 :: a12 :: a13 :: some v :: r) H Q := ⟨v, rfl, h⟩
theorem gn_14 (h : nx (a0 :: a1 :: a2 :: a3 :: a4 :: a5 :: a6 :: a7 :: a8 :: a9 :: a10 :: a11 :: a12 :: a13 :: some v :: r) H) : gName 14 v (a0 :: a1 :: a2 :: a3 :: a4 :: a5 :: a6 :: a7 :: a8 :: a9 :: a10 :: a11 :: a12 :: a13 :: a14 :: r) H nx := h
theorem gv_15 (h : Q v H) : tVar 15 (a0 :: a1 :: a2 :: a3 :: a4 :: a5 :: a6 :: a7 :: a8 :: a9 :: a10 :: a11 :: a12 :: a13 :: a14 :: some v :: r) H Q := ⟨v, rfl, h⟩
theorem gn_15 (h : nx (a0 :: a1 :: a2 :: a3 :: a4 :: a5 :: a6 :: a7 :: a8 :: a9 :: a10 :: a11 :: a12 :: a13 :: a14 :: some v :: r) H) : gName 15 v (a0 :: a1 :: a2 :: a3 :: a4 :: a5 :: a6 :: a7 :: a8 :: a9 :: a10 :: a11 :: a12 :: a13 :: a14 :: a15 :: r) H nx := h
theorem gv_16 (h : Q v H) : tVar 16 (a0 :: a1 :: a2 :: a3 :: a4 :: a5 :: a6 :: a7 :: a8 :: a9 :: a10 :: a11 :: a12 :: a13 :: a14 :: a15 :: some v :: r) H Q := ⟨v, rfl, h⟩
theorem gn_16 (h : nx (a0 :: a1 :: a2 :: a3 :: a4 :: a5 :: a6 :: a7 :: a8 :: a9 :: a10 :: a11 :: a12 :: a13 :: a14 :: a15 :: some v :: r) H) : gName 16 v (a0 :: a1 :: a2 :: a3 :: a4 :: a5 :: a6 :: a7 :: a8 :: a9 :: a10 :: a11 :: a12 :: a13 :: a14 :: a15 :: a16 :: r) H nx := h
theorem gv_17 (h : Q v H) : tVar 17 (a0 :: a1 :: a2 :: a3 :: a4 :: a5 :: a6 :: a7 :: a8 :: a9 :: a10 :: a11 :: a12 :: a13 :: a14 :: a15 :: a16 :: some v :: r) H Q := ⟨v, rfl, h⟩
theorem gn_17 (h : nx (a0 :: a1 :: a2 :: a3 :: a4 :: a5 :: a6 :: a7 :: a8 :: a9 :: a10 :: a11 :: a12 :: a13 :: a14 :: a15 :: a16 :: some v :: r) H) : gName 17 v (a0 :: a1 :: a2 :: a3 :: a4 :: a5 :: a6 :: a7 :: a8 :: a9 :: a10 :: a11 :: a12 :: a13 :: a14 :: a15 :: a16 :: a17 :: r) H nx := h
theorem gv_18 (h : Q v H) : tVar 18 (a0 :: a1 :: a2 :: a3 :: a4 :: a5 :: a6 :: a7 :: a8 :: a9 :: a10 :: a11 :: a12 :: a13 :: a14 :: a15 :: a16 :: a17 :: some v :: r) H Q := ⟨v, rfl, h⟩
theorem gn_18 (h : nx (a0 :: a1 :: a2 :: a3 :: a4 :: a5 :: a6 :: a7 :: a8 :: a9 :: a10 :: a11 :: a12 :: a13 :: a14 :: a15 :: a16 :: a17 :: some v :: r) H) : gName 18 v (a0 :: a1 :: a2 :: a3 :: a4 :: a5 :: a6 :: a7 :: a8 :: a9 :: a10 :: a11 :: a12 :: a13 :: a14 :: a15 :: a16 :: a17 :: a18 :: r) H nx := h
theorem gv_19 (h : Q v H) : tVar 19 (a0 :: a1 :: a2 :: a3 :: a4 :: a5 :: a6 :: a7 :: a8 :: a9 :: a10 :: a11 :: a12 :: a13 :: a14 :: a15 :: a16 :: a17 :: a18 :: some v :: r) H Q := ⟨v, rfl, h⟩
theorem gn_19 (h : nx (a0 :: a1 :: a2 :: a3 :: a4 :: a5 :: a6 :: a7 :: a8 :: a9 :: a10 :: a11 :: a12 :: a13 :: a14 :: a15 :: a16 :: a17 :: a18 :: some v :: r) H) : gName 19 v (a0 :: a1 :: a2 :: a3 :: a4 :: a5 :: a6 :: a7 :: a8 :: a9 :: a10 :: a11 :: a12 :: a13 :: a14 :: a15 :: a16 :: a17 :: a18 :: a19 :: r) H nx := h
theorem gv_20 (h : Q v H) : tVar 20 (a0 :: a1 :: a2 :: a3 :: a4 :: a5 :: a6 :: a7 :: a8 :: a9 :: a10 :: a11 :: a12 :: a13 :: a14 :: a15 :: a16 :: a17 :: a18 :: a19 :: some v :: r) H Q := ⟨v, rfl, h⟩
theorem gn_20 (h : nx (a0 :: a1 :: a2 :: a3 :: a4 :: a5 :: a6 :: a7 :: a8 :: a9 :: a10 :: a11 :: a12 :: a13 :: a14 :: a15 :: a16 :: a17 :: a18 :: a19 :: some v :: r) H) : gName 20 v (a0 :: a1 :: a2 :: a3 :: a4 :: a5 :: a6 :: a7 :: a8 :: a9 :: a10 :: a11 :: a12 :: a13 :: a14 :: a15 :: a16 :: a17 :: a18 :: a19 :: a20 :: r) H nx := h
end
end L3

/-! ### calls by keywords -/
namespace L3
open PySem L2 PyProof.Rows
def pick {α : Type} (ws : List α) : List Nat → List α
  | [] => []
  | i :: r => match ws[i]? with
    | some x => x :: pick ws r
    | none => pick ws r
def kwg {α : Type} (perm : List Nat) (us ws : List α) : List α := us ++ pick ws perm
theorem pick_rel {zs : List V} {ws : List Value} (h : Vals zs ws) : ∀ perm : List Nat, Vals (pick zs perm) (pick ws perm)
  | [] => .nil
  | i :: r => by
    unfold pick
    cases e : zs[i]? with
    | none => rw [h.none_of e]; exact pick_rel h r
    | some x =>
      obtain ⟨u, e2, rx⟩ := h.get e
      rw [e2]
      exact .cons rx (pick_rel h r)
theorem kbn_mk {K : PySem.W.Frag} {fd : FuncData} {ps ks : List Str} {n : Nat} {perm : List Nat} (h : ∀ (us ws : List Value), us.length = n → ws.length = ks.length → bindArgs fd ⟨us, ks.zip ws⟩ = pure (ps.zip (kwg perm us ws))) :
    KBn K fd ps n ks (fun us ws => kwg perm us ws) (fun vs zs => kwg perm vs zs) :=
  ⟨fun s us ws _ l1 l2 => .of_eq (h us ws l1 l2), fun r1 r2 => r1.append (pick_rel r2 perm)⟩
/-- o.m(e, .., k = v, ..) -/
def tMethK (C : Addr) (m : Str) (n j : Nat) (sp : Sp) (gV : List V → List V → List V) (E : XK) (ta : TE) (t tk : TA) : TE := fun σ H Q => ta σ H fun x H1 => ∃ a dx fs, x = .ref a ∧ H1 a = some (.ins C dx fs) ∧ fs.lookup m = none ∧
  t σ H1 fun vs H2 => tk σ H2 fun zs H3 => (x :: vs).length = n ∧ zs.length = j ∧ sp (gV (x :: vs) zs) H3 Q E
section
variable {X : Cx} {CX : CXT} {k n : Nat} {f C : Addr} {fd : FuncData} {ps ks : List Str} {sp : Sp} {E : XK} {m : Str} {pos apos : Pos} {o e : Expr} {es : List Expr} {kws : List Keyword} {ta : TE} {t tk : TA} {g : List Value → List Value → List Value} {gV : List V → List V → List V}
theorem pe_methK {pl : Sem Bool} (he : PE X o ta) (c : Cls X.K C) (hm : Meth X.K C m f) (F : FnOk X.prog X.w X.K X.mg X.base CX k f fd ps sp) (hr : Room k X.A) (hb : KBn X.K fd ps n ks g gV) (hx : Passes CX X E) (ha : PA X (e :: es) t) (hkw : PK X kws tk)
    (hall : (backToKw pos (keywordEach kws X.env)).all (·.1.isSome) = true := by rfl) (hks : (backToKw pos (keywordEach kws X.env)).filterMap (·.1) = ks := by rfl)
    (hst : starEach (e :: es) X.env = (false, eval e X.env) :: starEach es X.env := by rfl) (hpl : ((backTo pos (starEach (e :: es) X.env)).any (·.1) || (backToKw pos (keywordEach kws X.env)).any (·.1.isNone)) = false := by rfl)
    (ht : eval (.Call (.Attribute o m apos) (e :: es) kws pos) X.env = (do
      let ov ← eval o X.env
      standAt apos.atName
      let (f, first) ← holding [ov] (getMethod ov m pl)
      callWith pos f first (backTo pos (starEach (e :: es) X.env)) (backToKw pos (keywordEach kws X.env))) := by rfl) :
    PE X (.Call (.Attribute o m apos) (e :: es) kws pos) (tMethK C m n ks.length sp gV E ta t tk) := by
  refine ⟨fun pins s σ H Q I h => ?_⟩
  refine PySem.W.methodCall_KW (pl := pl) (thn (he.run pins s σ H _ I h) fun u s1 ⟨x, H1, I1, rx, a, dx, fs, ex, ea, l, q⟩ => ?_) ht
  subst ex
  obtain rfl : u = Value.ref a := rx
  refine getmeth_ok I1 ea c hm l ?_
  refine PySem.W.callWith_KW (first := [.ref a]) (h₀ := X.base) I.ok.mod.kin hm.kp hall (thn (ha.run pos pins s1 σ H1 _ I1 q) fun us s2 ⟨vs, H2, I2, r, q2⟩ => ?_) hpl hst
  refine thn (hkw.run pos pins s2 σ H2 _ I2 q2) fun ws s3 ⟨zs, H3, I3, rz, l1, l2, q3⟩ => ⟨I3.kIn, ?_⟩
  rw [hks]
  exact run_fnN (us := .ref a :: us) (vs := .ref a :: vs) F hr hb hx I3 (.cons rfl r) rz l1 l2 q3
theorem pe_methK0 {pl : Sem Bool} (he : PE X o ta) (c : Cls X.K C) (hm : Meth X.K C m f) (F : FnOk X.prog X.w X.K X.mg X.base CX k f fd ps sp) (hr : Room k X.A) (hb : KBn X.K fd ps n ks g gV) (hx : Passes CX X E) (hkw : PK X kws tk)
    (hall : (backToKw pos (keywordEach kws X.env)).all (·.1.isSome) = true := by rfl) (hks : (backToKw pos (keywordEach kws X.env)).filterMap (·.1) = ks := by rfl)
    (hpl : ((backTo pos (starEach [] X.env)).any (·.1) || (backToKw pos (keywordEach kws X.env)).any (·.1.isNone)) = false := by rfl)
    (ht : eval (.Call (.Attribute o m apos) [] kws pos) X.env = (do
      let ov ← eval o X.env
      standAt apos.atName
      let (f, first) ← holding [ov] (getMethod ov m pl)
      callWith pos f first (backTo pos (starEach [] X.env)) (backToKw pos (keywordEach kws X.env))) := by rfl) :
    PE X (.Call (.Attribute o m apos) [] kws pos) (tMethK C m n ks.length sp gV E ta tNil tk) := by
  refine ⟨fun pins s σ H Q I h => ?_⟩
  refine PySem.W.methodCall_KW (pl := pl) (thn (he.run pins s σ H _ I h) fun u s1 ⟨x, H1, I1, rx, a, dx, fs, ex, ea, l, q⟩ => ?_) ht
  subst ex
  obtain rfl : u = Value.ref a := rx
  refine getmeth_ok I1 ea c hm l ?_
  refine PySem.W.callWith_KW0 (first := [.ref a]) (h₀ := X.base) I.ok.mod.kin hm.kp hall ?_ hpl
  refine thn (hkw.run pos pins s1 σ H1 _ I1 q) fun ws s3 ⟨zs, H3, I3, rz, l1, l2, q3⟩ => ⟨I3.kIn, ?_⟩
  rw [hks]
  exact run_fnN (us := [.ref a]) (vs := [.ref a]) F hr hb hx I3 (.cons rfl .nil) rz l1 l2 q3
theorem ptT {a : Expr} {ta : TE} (ha : PE X a ta) (he : ∀ whole, isTrue a X.env whole = (do let v ← whole; standAt a.pos; holding [v] (truthy v))) : PT X a (tTr X.K ta) := pt_truth ha he
end
section
variable {K : PySem.W.Frag} {C a dx : Addr} {σ : L2.St} {H : Hp} {Q : VK} {ta : TE} {t tk : TA} {sp : Sp} {E : XK} {fs : List (Str × V)} {vs zs : List V} {n j : Nat} {perm : List Nat}
def CallK (n j : Nat) (sp : Sp) (E : XK) (perm : List Nat) (vs zs : List V) (H : Hp) (Q : VK) : Prop := vs.length = n ∧ zs.length = j ∧ sp (kwg perm vs zs) H Q E
def MethKR (C : Addr) (m : Str) (n j : Nat) (sp : Sp) (perm : List Nat) (E : XK) (t tk : TA) (σ : L2.St) (x : V) (H : Hp) (Q : VK) : Prop := ∃ a dx fs, x = .ref a ∧ H a = some (.ins C dx fs) ∧ fs.lookup m = none ∧ t σ H fun vs H2 => tk σ H2 fun zs H3 => CallK n j sp E perm (x :: vs) zs H3 Q
theorem g_methK {m : Str} (h : ta σ H fun x H1 => MethKR C m n j sp perm E t tk σ x H1 Q) : tMethK C m n j sp (fun vs zs => kwg perm vs zs) E ta t tk σ H Q := h
theorem m_methK {m : Str} (h1 : H a = some (.ins C dx fs)) (hn : fs.lookup m = none) (h : t σ H fun vs H2 => tk σ H2 fun zs H3 => CallK n j sp E perm (.ref a :: vs) zs H3 Q) : MethKR C m n j sp perm E t tk σ (.ref a) H Q := ⟨a, dx, fs, rfl, h1, hn, h⟩
theorem g_callK {vs' : List V} (h1 : vs.length = n) (h2 : zs.length = j) (e : kwg perm vs zs = vs') (h : sp vs' H Q E) : CallK n j sp E perm vs zs H Q := ⟨h1, h2, by rw [e]; exact h⟩
theorem g_tcallN (h : t σ H fun vs H1 => tk σ H1 fun zs H2 => CallK n j sp E perm vs zs H2 Q) : tCallN n j sp (fun vs zs => kwg perm vs zs) E t tk σ H Q := h
def MakeKR (C : Addr) (n j : Nat) (sp : Sp) (E : XK) (perm : List Nat) (vs zs : List V) (H : Hp) (Q : VK) : Prop := vs.length = n ∧ zs.length = j ∧ ∀ x dx, H x = none → H dx = none → dx ≠ x → sp (kwg perm (.ref x :: vs) zs) (upd (upd H dx (.own x)) x (.ins C dx [])) (fun v H3 => v = .non ∧ Q (.ref x) H3) E
theorem g_makeK (h : t σ H fun vs H1 => tk σ H1 fun zs H2 => MakeKR C n j sp E perm vs zs H2 Q) : tMakeK C n j sp (fun vs zs => kwg perm vs zs) E t tk σ H Q := h
theorem m_makeK {vs' : V → List V} (h1 : vs.length = n) (h2 : zs.length = j) (e : ∀ x, kwg perm (x :: vs) zs = vs' x) (h : ∀ x dx, H x = none → H dx = none → dx ≠ x → sp (vs' (.ref x)) (upd (upd H dx (.own x)) x (.ins C dx [])) (fun v H3 => v = .non ∧ Q (.ref x) H3) E) : MakeKR C n j sp E perm vs zs H Q :=
  ⟨h1, h2, fun x dx a b c => by rw [e]; exact h x dx a b c⟩
/-- __init__: the instance is new; what it leaves -/
def SpInit (C : Addr) (vs : List V) (fs : List (Str × V)) (ws : List V) (H : Hp) (Q : VK) : Prop := ∃ x dx, vs = .ref x :: ws ∧ H x = some (.ins C dx []) ∧ ∀ H', SB x H H' → H' x = some (.ins C dx fs) → Q .non H'
theorem mk_done {C x dx : Addr} {H H' : Hp} {fs : List (Str × V)} {Q : VK} (h1 : H x = none) (h2 : H dx = none) (e : SB x (upd (upd H dx (.own x)) x (.ins C dx [])) H') (h3 : H' x = some (.ins C dx fs))
    (k : ∀ x dx H', Fr H x → Same H H' → H' x = some (.ins C dx fs) → Q (.ref x) H') : V.non = .non ∧ Q (.ref x) H' := ⟨rfl, k x dx H' ⟨h1⟩ (fun b o q => e b o (ne_of_none q h1) (by rw [upd_ne (ne_of_none q h1), upd_ne (ne_of_none q h2)]; exact q)) h3⟩
end
end L3

/-! ### built-ins, by name -/
namespace L3
open PySem L2 PyProof.Rows
def rInt1 : List V → Hp → VK → Prop := fun xs H Q => (∃ i, xs = [.int i] ∧ Q (.int i) H) ∨ ∃ k, xs = [.bl k] ∧ Q (.int (if k then 1 else 0)) H
def rAbs1 : List V → Hp → VK → Prop := fun xs H Q => ∃ i, xs = [.int i] ∧ Q (.int (if i < 0 then -i else i)) H
def rMax2 : List V → Hp → VK → Prop := fun xs H Q => ∃ i j, xs = [.int i, .int j] ∧ Q (.int (if j > i then j else i)) H
def rMin2 : List V → Hp → VK → Prop := fun xs H Q => ∃ i j, xs = [.int i, .int j] ∧ Q (.int (if j < i then j else i)) H
def rLen (K : PySem.W.Frag) : List V → Hp → VK → Prop := fun xs H Q => ∃ p ys, xs = [.ref p] ∧ (SqL K H p ys ∨ SqT K H p ys) ∧ Q (.int ys.length) H
def rListOf (K : PySem.W.Frag) : List V → Hp → VK → Prop := fun xs H Q => ∃ p ys, xs = [.ref p] ∧ (SqL K H p ys ∨ SqT K H p ys) ∧ ∀ l, H l = none → Q (.ref l) (upd H l (.lst ys))
section
variable {X : Cx}
theorem c_int1 : CallR X (.type "int") rInt1 := call_int1
theorem c_abs : CallR X (.builtin "abs") rAbs1 := call_abs
theorem c_max2 (hc : X.calm = true) : CallR X (.builtin "max") rMax2 := call_max2 hc
theorem c_min2 (hc : X.calm = true) : CallR X (.builtin "min") rMin2 := call_min2 hc
theorem c_len : CallR X (.builtin "len") (rLen X.K) := call_len_seq
theorem c_list : CallR X (.type "list") (rListOf X.K) := call_list_of
end
section
variable {K : PySem.W.Frag} {a : Addr} {H : Hp} {Q : VK} {i j n z : Int} {b : Bool} {xs r : List V} {v x : V}
theorem b_int (h : Q (.int i) H) : rInt1 [.int i] H Q := .inl ⟨i, rfl, h⟩
theorem b_intb (h : Q (.int (if b then 1 else 0)) H) : rInt1 [.bl b] H Q := .inr ⟨b, rfl, h⟩
theorem b_abs (h : Q (.int (if i < 0 then -i else i)) H) : rAbs1 [.int i] H Q := ⟨i, rfl, h⟩
theorem b_max2 (h : Q (.int (if j > i then j else i)) H) : rMax2 [.int i, .int j] H Q := ⟨i, j, rfl, h⟩
theorem b_min2 (h : Q (.int (if j < i then j else i)) H) : rMin2 [.int i, .int j] H Q := ⟨i, j, rfl, h⟩
theorem b_len (h1 : H a = some (.lst xs)) (hn : (xs.length : Int) = n) (h : Q (.int n) H) : rLen K [.ref a] H Q := ⟨a, xs, rfl, .inl (SqL.of h1), by rw [hn]; exact h⟩
theorem b_lent (h1 : H a = some (.tup xs)) (hn : (xs.length : Int) = n) (h : Q (.int n) H) : rLen K [.ref a] H Q := ⟨a, xs, rfl, .inr (SqT.of h1), by rw [hn]; exact h⟩
theorem b_lenq (h1 : SqL K H a xs) (hn : (xs.length : Int) = n) (h : Q (.int n) H) : rLen K [.ref a] H Q := ⟨a, xs, rfl, .inl h1, by rw [hn]; exact h⟩
theorem b_list (h1 : H a = some (.lst xs)) (h : ∀ p H', Fr H p → Same H H' → H' p = some (.lst xs) → Q (.ref p) H') : rListOf K [.ref a] H Q := ⟨a, xs, rfl, .inl (SqL.of h1), fun p hp => h p _ ⟨hp⟩ (same_upd hp) upd_same⟩
theorem b_listt (h1 : H a = some (.tup xs)) (h : ∀ p H', Fr H p → Same H H' → H' p = some (.lst xs) → Q (.ref p) H') : rListOf K [.ref a] H Q := ⟨a, xs, rfl, .inr (SqT.of h1), fun p hp => h p _ ⟨hp⟩ (same_upd hp) upd_same⟩
theorem s_set0 {Q : Hp → Prop} (h1 : H a = some (.lst (x :: r))) (h : ∀ H', SB a H H' → H' a = some (.lst (v :: r)) → Q H') : rSetL (.ref a) (.int 0) v H Q :=
  ⟨a, x :: r, 0, 0, rfl, rfl, h1, by
    unfold ixN
    rw [if_pos (by decide), if_pos (by rw [List.length_cons]; omega)]
    rfl, h _ sb_upd upd_same⟩
/-- an item of a list all of whose items are so -/
theorem ix_all {P : V → Prop} (h1 : H a = some (.lst xs)) (h0 : 0 ≤ z) (hz : z < xs.length) (hP : ∀ v ∈ xs, P v) (h : ∀ v, P v → Q v H) : rIx K (.ref a) (.int z) H Q := by
  have e : z = ((z.toNat : Nat) : Int) := by omega
  have hlt : z.toNat < xs.length := by omega
  exact ix_l h1 (v := xs[z.toNat]) (at_of e (by simp [hlt])) (h _ (hP _ (List.getElem_mem hlt)))
theorem ix_at {k : Nat} (h1 : H a = some (.lst xs)) (hz : z = k) (hv : xs[k]? = some v) (h : Q v H) : rIx K (.ref a) (.int z) H Q := ix_l h1 (by rw [hz]; exact atI_nat hv) h
theorem o_powc {k : Int} (e : CPow i j) (hk : i ^ j.toNat = k) (h : Q (.int k) H) : rPowI (.int i) (.int j) H Q := ⟨i, j, rfl, rfl, e, by show Q (V.int (i ^ j.toNat)) H; rw [hk]; exact h⟩
end
end L3

/-! ### more rests, data, loops, comprehensions -/
namespace L3
open PySem L2 PyProof.Rows
theorem q_y {Q : VK} {H : Hp} {P : Prop} {dP : Decidable P} (e : P) (h : Q (.bl true) H) : Q (.bl (decide P)) H := by rw [decide_eq_true e]; exact h
theorem q_n {Q : VK} {H : Hp} {P : Prop} {dP : Decidable P} (e : ¬ P) (h : Q (.bl false) H) : Q (.bl (decide P)) H := by rw [decide_eq_false e]; exact h
section
variable {K : PySem.W.Frag} {a : Addr} {σ : L2.St} {H : Hp} {Q : VK} {i j : Int} {x y v : V} {b : Bool} {P : Prop} {xs ys : List V} {ta tb te tl : TE} {t u : TT} {g : TG} {ts : TS} {D : Ends} {nx bk ct : L2.St → Hp → Prop} {rt : VK} {tas : TA}
def AndVR (x : V) (tb : TE) (σ : L2.St) (H : Hp) (Q : VK) : Prop := ∃ c, x = .bl c ∧ if c = true then tb σ H Q else Q (.bl false) H
def OrVR (x : V) (tb : TE) (σ : L2.St) (H : Hp) (Q : VK) : Prop := ∃ c, x = .bl c ∧ if c = true then Q (.bl true) H else tb σ H Q
def NotVR (x : V) (H : Hp) (Q : VK) : Prop := ∃ c, x = .bl c ∧ Q (.bl (!c)) H
def NotTR (K : PySem.W.Frag) (x : V) (H : Hp) (Q : VK) : Prop := ∃ k, TruV K x H k ∧ Q (.bl (!k)) H
def IfER (b : Bool) (ta tb : TE) (σ : L2.St) (H : Hp) (Q : VK) : Prop := if b = true then ta σ H Q else tb σ H Q
theorem g_andv (h : ta σ H fun x H1 => AndVR x tb σ H1 Q) : tAndV ta tb σ H Q := h
theorem g_orv (h : ta σ H fun x H1 => OrVR x tb σ H1 Q) : tOrV ta tb σ H Q := h
theorem g_notv (h : ta σ H fun x H1 => NotVR x H1 Q) : tNotV ta σ H Q := h
theorem g_nott (h : ta σ H fun x H1 => NotTR K x H1 Q) : tNotT K ta σ H Q := h
theorem g_ife (h : t σ H fun b H1 => IfER b ta tb σ H1 Q) : tIf t ta tb σ H Q := h
theorem andv_T (h : tb σ H Q) : AndVR (.bl true) tb σ H Q := ⟨true, rfl, h⟩
theorem andv_F (h : Q (.bl false) H) : AndVR (.bl false) tb σ H Q := ⟨false, rfl, h⟩
theorem andv_y {dP : Decidable P} (e : P) (h : tb σ H Q) : AndVR (.bl (decide P)) tb σ H Q := by rw [decide_eq_true e]; exact andv_T h
theorem andv_n {dP : Decidable P} (e : ¬ P) (h : Q (.bl false) H) : AndVR (.bl (decide P)) tb σ H Q := by rw [decide_eq_false e]; exact andv_F h
theorem andv_2 {dP : Decidable P} (h1 : P → tb σ H Q) (h2 : ¬ P → Q (.bl false) H) : AndVR (.bl (decide P)) tb σ H Q := by
  by_cases h : P
  · exact andv_y h (h1 h)
  · exact andv_n h (h2 h)
theorem orv_T (h : Q (.bl true) H) : OrVR (.bl true) tb σ H Q := ⟨true, rfl, h⟩
theorem orv_F (h : tb σ H Q) : OrVR (.bl false) tb σ H Q := ⟨false, rfl, h⟩
theorem orv_y {dP : Decidable P} (e : P) (h : Q (.bl true) H) : OrVR (.bl (decide P)) tb σ H Q := by rw [decide_eq_true e]; exact orv_T h
theorem orv_n {dP : Decidable P} (e : ¬ P) (h : tb σ H Q) : OrVR (.bl (decide P)) tb σ H Q := by rw [decide_eq_false e]; exact orv_F h
theorem notv_T (h : Q (.bl false) H) : NotVR (.bl true) H Q := ⟨true, rfl, h⟩
theorem notv_F (h : Q (.bl true) H) : NotVR (.bl false) H Q := ⟨false, rfl, h⟩
theorem notv_y {dP : Decidable P} (e : P) (h : Q (.bl false) H) : NotVR (.bl (decide P)) H Q := by rw [decide_eq_true e]; exact notv_T h
theorem notv_n {dP : Decidable P} (e : ¬ P) (h : Q (.bl true) H) : NotVR (.bl (decide P)) H Q := by rw [decide_eq_false e]; exact notv_F h
theorem notv_b (h : Q (.bl (!b)) H) : NotVR (.bl b) H Q := ⟨b, rfl, h⟩
theorem nott_bl (h : NotVR (.bl b) H Q) : NotTR K (.bl b) H Q := by obtain ⟨c, e, q⟩ := h; cases e; exact ⟨b, rfl, q⟩
theorem ife_T (h : ta σ H Q) : IfER true ta tb σ H Q := h
theorem ife_F (h : tb σ H Q) : IfER false ta tb σ H Q := h
theorem ife_y {dP : Decidable P} (e : P) (h : ta σ H Q) : IfER (decide P) ta tb σ H Q := by rw [decide_eq_true e]; exact h
theorem ife_n {dP : Decidable P} (e : ¬ P) (h : tb σ H Q) : IfER (decide P) ta tb σ H Q := by rw [decide_eq_false e]; exact h
theorem ife_2 {dP : Decidable P} (h1 : P → ta σ H Q) (h2 : ¬ P → tb σ H Q) : IfER (decide P) ta tb σ H Q := by
  by_cases h : P
  · exact ife_y h (h1 h)
  · exact ife_n h (h2 h)
theorem ife_b (h1 : b = true → ta σ H Q) (h2 : b = false → tb σ H Q) : IfER b ta tb σ H Q := by
  cases b
  · exact h2 rfl
  · exact h1 rfl

/-! isinstance of an int -/
theorem isi_ii (h : Q (.bl true) H) : rIsi K [.int i, .ty "int"] H Q := ⟨_, _, _, _, true, rfl, .ty _, .base (.int i), kit_ty (by decide +kernel), h⟩
theorem isi_ib (h : Q (.bl false) H) : rIsi K [.int i, .ty "bool"] H Q := ⟨_, _, _, _, false, rfl, .ty _, .base (.int i), kit_ty (by decide +kernel), h⟩
theorem isi_bb (h : Q (.bl true) H) : rIsi K [.bl b, .ty "bool"] H Q := ⟨_, _, _, _, true, rfl, .ty _, .base (.bl b), kit_ty (by decide +kernel), h⟩
theorem isi_bi (h : Q (.bl true) H) : rIsi K [.bl b, .ty "int"] H Q := ⟨_, _, _, _, true, rfl, .ty _, .base (.bl b), kit_ty (by decide +kernel), h⟩
theorem isi_ll (h1 : H a = some (.lst xs)) (h : Q (.bl true) H) : rIsi K [.ref a, .ty "list"] H Q := ⟨_, _, _, _, true, rfl, .ty _, .base (.lst h1), kit_ty (by decide +kernel), h⟩
theorem isi_tt (h1 : H a = some (.tup xs)) (h : Q (.bl true) H) : rIsi K [.ref a, .ty "tuple"] H Q := ⟨_, _, _, _, true, rfl, .ty _, .base (.tup h1), kit_ty (by decide +kernel), h⟩
end

/-! ### a target that takes a tuple or a list -/
def gOr (g1 g2 : TG) : TG := fun v σ H Q => g1 v σ H Q ∨ g2 v σ H Q
theorem pg_or {X : Cx} {tg : Expr} {g1 g2 : TG} (h1 : PG X tg g1) (h2 : PG X tg g2) : PG X tg (gOr g1 g2) :=
  ⟨fun pins s σ H v u Q I r h => h.elim (fun h => h1.run pins s σ H v u Q I r h) fun h => h2.run pins s σ H v u Q I r h⟩
section
variable {K : PySem.W.Frag} {a : Addr} {σ : L2.St} {H : Hp} {v : V} {xs : List V} {g1 g2 : TG} {t : TGs} {n : Nat} {nx : L2.St → Hp → Prop}
theorem g_or1 (h : g1 v σ H nx) : gOr g1 g2 v σ H nx := .inl h
theorem g_or2 (h : g2 v σ H nx) : gOr g1 g2 v σ H nx := .inr h
theorem g_glst (h1 : H a = some (.lst xs)) (hl : xs.length = n) (h : t xs σ H nx) : gLst K n t (.ref a) σ H nx := ⟨a, xs, rfl, SqL.of h1, hl, h⟩
end

/-! ### data seen as PyData -/
/-- v is data told by d, as the heap stands -/
theorem dp_ints {K : PySem.W.Frag} {H : Hp} : ∀ ns : List Int, DpAll K H (ns.map V.int) (ns.map PyData.int)
  | [] => .nil
  | n :: ns => .cons (.int n) (dp_ints ns)
theorem lay_ints : ∀ ns : List Int, PyData.canLayAll0 (ns.map PyData.int) = true
  | [] => by simp [PyData.canLayAll0]
  | n :: ns => by simp [PyData.canLayAll0, PyData.canLay0, lay_ints ns]
theorem depth_ints : ∀ ns : List Int, PyData.depthAll (ns.map PyData.int) ≤ 1
  | [] => by simp [PyData.depthAll]
  | n :: ns => by
    have h1 := depth_ints ns
    simp only [List.map_cons, PyData.depthAll, PyData.depth]
    omega
theorem shaped_ints (ns : List Int) : SeqAt.shaped (.list (ns.map PyData.int)) = true := by
  have h1 := depth_ints ns
  have h2 : PyData.depth (.list (ns.map PyData.int)) ≤ 64 := by
    simp only [PyData.depth]
    omega
  show (PyData.canLay0 (.list (ns.map PyData.int)) && decide (PyData.depth (.list (ns.map PyData.int)) ≤ 64)) = true
  rw [Bool.and_eq_true]
  exact ⟨by simp only [PyData.canLay0]; exact lay_ints ns, decide_eq_true h2⟩
theorem shaped_tints (ns : List Int) : SeqAt.shaped (.tuple (ns.map PyData.int)) = true := by
  have h1 := depth_ints ns
  have h2 : PyData.depth (.tuple (ns.map PyData.int)) ≤ 64 := by
    simp only [PyData.depth]
    omega
  show (PyData.canLay0 (.tuple (ns.map PyData.int)) && decide (PyData.depth (.tuple (ns.map PyData.int)) ≤ 64)) = true
  rw [Bool.and_eq_true]
  exact ⟨by simp only [PyData.canLay0]; exact lay_ints ns, decide_eq_true h2⟩
theorem eqv_ints : ∀ ns ms : List Int, PyData.eqvAll (ns.map PyData.int) (ms.map PyData.int) = decide (ns = ms)
  | [], [] => by simp [PyData.eqvAll]
  | [], _ :: _ => by simp [PyData.eqvAll]
  | _ :: _, [] => by simp [PyData.eqvAll]
  | n :: ns, m :: ms => by
    simp only [List.map_cons, PyData.eqvAll, PyData.eqv, eqv_ints ns ms]
    by_cases h1 : n = m
    · by_cases h2 : ns = ms
      · simp [h1, h2]
      · simp [h1, h2]
    · simp [h1]
/-- a list of ints by its ints -/
inductive Ints : List V → List Int → Prop
  | nil : Ints [] []
  | cons {n : Int} {xs : List V} {ns : List Int} (h : Ints xs ns) : Ints (.int n :: xs) (n :: ns)
theorem Ints.eq : ∀ {xs : List V} {ns : List Int}, Ints xs ns → xs = ns.map V.int
  | _, _, .nil => rfl
  | _, _, .cons h => by rw [List.map_cons, ← h.eq]
theorem Ints.of : ∀ ns : List Int, Ints (ns.map V.int) ns
  | [] => .nil
  | _ :: ns => .cons (Ints.of ns)
section
variable {K : PySem.W.Frag} {a c : Addr} {H : Hp} {Q : VK} {xs ys : List V} {ns ms : List Int}
theorem o_eql (h1 : H a = some (.lst xs)) (h2 : H c = some (.lst ys)) (e1 : Ints xs ns) (e2 : Ints ys ms) (h : Q (.bl (decide (ns = ms))) H) : rEqD K (.ref a) (.ref c) H Q := by
  rw [e1.eq] at h1
  rw [e2.eq] at h2
  refine ⟨.list (ns.map PyData.int), .list (ms.map PyData.int), .lst (SqL.of h1) (dp_ints ns), .lst (SqL.of h2) (dp_ints ms), shaped_ints ns, shaped_ints ms, ?_⟩
  rw [PyData.eqv, eqv_ints]
  exact h
theorem o_nel (h1 : H a = some (.lst xs)) (h2 : H c = some (.lst ys)) (e1 : Ints xs ns) (e2 : Ints ys ms) (h : Q (.bl (!decide (ns = ms))) H) : rNeD K (.ref a) (.ref c) H Q := by
  rw [e1.eq] at h1
  rw [e2.eq] at h2
  refine ⟨.list (ns.map PyData.int), .list (ms.map PyData.int), .lst (SqL.of h1) (dp_ints ns), .lst (SqL.of h2) (dp_ints ms), shaped_ints ns, shaped_ints ms, ?_⟩
  rw [PyData.eqv, eqv_ints]
  exact h
theorem o_eqt (h1 : H a = some (.tup xs)) (h2 : H c = some (.tup ys)) (e1 : Ints xs ns) (e2 : Ints ys ms) (h : Q (.bl (decide (ns = ms))) H) : rEqD K (.ref a) (.ref c) H Q := by
  rw [e1.eq] at h1
  rw [e2.eq] at h2
  refine ⟨.tuple (ns.map PyData.int), .tuple (ms.map PyData.int), .tup (SqT.of h1) (dp_ints ns), .tup (SqT.of h2) (dp_ints ms), shaped_tints ns, shaped_tints ms, ?_⟩
  rw [PyData.eqv, eqv_ints]
  exact h
theorem o_net (h1 : H a = some (.tup xs)) (h2 : H c = some (.tup ys)) (e1 : Ints xs ns) (e2 : Ints ys ms) (h : Q (.bl (!decide (ns = ms))) H) : rNeD K (.ref a) (.ref c) H Q := by
  rw [e1.eq] at h1
  rw [e2.eq] at h2
  refine ⟨.tuple (ns.map PyData.int), .tuple (ms.map PyData.int), .tup (SqT.of h1) (dp_ints ns), .tup (SqT.of h2) (dp_ints ms), shaped_tints ns, shaped_tints ms, ?_⟩
  rw [PyData.eqv, eqv_ints]
  exact h
/-- equal data, at any depth -/
theorem o_eqd {x y : V} {d : PyData} (h1 : Dp K H x d) (h2 : Dp K H y d) (hs : SeqAt.shaped d = true) (h : Q (.bl true) H) : rEqD K x y H Q :=
  ⟨d, d, h1, h2, hs, hs, by rw [SeqAt.eqv_refl d (SeqAt.canLay_of_shaped hs)]; exact h⟩
end

/-! ### loops -/
section
variable {K : PySem.W.Frag} {a : Addr} {σ : L2.St} {H : Hp} {Q : VK} {xs : List V} {tl te : TE} {g : TG} {tb : TS} {tt : TT} {nx bk ct : L2.St → Hp → Prop} {rt : VK} {ta : TA} {vs : List Nat}
def ForL (K : PySem.W.Frag) (g : TG) (tb : TS) (D : Ends) (σ : L2.St) (x : V) (H1 : Hp) : Prop := ∃ a, x = .ref a ∧ (∃ xs, SqL K H1 a xs) ∧ ∃ W : Nat → Nat → L2.St → Hp → Prop, (∃ m, W 0 m σ H1) ∧ ∀ i m σ H, W i m σ H →
  ((Itl K a).stop i H ∧ D.nx σ H) ∨ ((Itl K a).go i H ∧ ∃ N : L2.St → Hp → Prop, (∀ σ' H', N σ' H' → ∃ m', m' < m ∧ W (i + 1) m' σ' H') ∧ ∀ x H', (Itl K a).yld i H x H' → g x σ H' fun σ2 H2 => tb { D with nx := N, ct := N, bk := D.nx } σ2 H2)
def ForR (lo : Int) (n : Nat) (g : TG) (tb : TS) (D : Ends) (σ : L2.St) (H1 : Hp) : Prop := ∃ W : Nat → Nat → L2.St → Hp → Prop, (∃ m, W 0 m σ H1) ∧ ∀ i m σ H, W i m σ H →
  ((Itr lo n).stop i H ∧ D.nx σ H) ∨ ((Itr lo n).go i H ∧ ∃ N : L2.St → Hp → Prop, (∀ σ' H', N σ' H' → ∃ m', m' < m ∧ W (i + 1) m' σ' H') ∧ ∀ x H', (Itr lo n).yld i H x H' → g x σ H' fun σ2 H2 => tb { D with nx := N, ct := N, bk := D.nx } σ2 H2)
def ForR1 (g : TG) (tb : TS) (D : Ends) (σ : L2.St) (vs : List V) (H1 : Hp) : Prop := ∃ j : Int, vs = [.int j] ∧ -(2 ^ 62) ≤ j ∧ j < 2 ^ 62 ∧ ForR 0 j.toNat g tb D σ H1
def ForR2 (g : TG) (tb : TS) (D : Ends) (σ : L2.St) (vs : List V) (H1 : Hp) : Prop := ∃ i j : Int, vs = [.int i, .int j] ∧ (-(2 ^ 62) ≤ i ∧ i < 2 ^ 62 ∧ -(2 ^ 62) ≤ j ∧ j < 2 ^ 62) ∧ ForR i (j - i).toNat g tb D σ H1
theorem g_forl (h : tl σ H fun x H1 => ForL K g tb ⟨nx, rt, bk, ct⟩ σ x H1) : tFor (iList K tl) g tb ⟨nx, rt, bk, ct⟩ σ H := h
theorem g_for1 (h : ta σ H fun vs H1 => ForR1 g tb ⟨nx, rt, bk, ct⟩ σ vs H1) : tFor (iRng1 ta) g tb ⟨nx, rt, bk, ct⟩ σ H := h
theorem g_for2 (h : ta σ H fun vs H1 => ForR2 g tb ⟨nx, rt, bk, ct⟩ σ vs H1) : tFor (iRng2 ta) g tb ⟨nx, rt, bk, ct⟩ σ H := h
/-- a list that stands still -/
theorem f_list (Pv : Nat → L2.St → Hp → Prop) (h1 : SqL K H a xs) (h0 : Pv 0 σ H) (hl : ∀ i σ H', i ≤ xs.length → Pv i σ H' → SqL K H' a xs)
    (hs : ∀ i x σ H', xs[i]? = some x → Pv i σ H' → g x σ H' fun σ2 H2 => tb ⟨Pv (i + 1), rt, nx, Pv (i + 1)⟩ σ2 H2) (hd : ∀ σ H', Pv xs.length σ H' → nx σ H') : ForL K g tb ⟨nx, rt, bk, ct⟩ σ (.ref a) H :=
  ⟨a, rfl, ⟨xs, h1⟩, for_list (D := ⟨nx, rt, bk, ct⟩) Pv h0 hl hs hd⟩
theorem f_rng1 {j : Int} (Pv : Nat → L2.St → Hp → Prop) (b1 : -(2 ^ 62) ≤ j) (b2 : j < 2 ^ 62) (h0 : Pv 0 σ H)
    (hs : ∀ (i : Nat) σ H', (i : Int) < j → Pv i σ H' → g (.int i) σ H' fun σ2 H2 => tb ⟨Pv (i + 1), rt, nx, Pv (i + 1)⟩ σ2 H2) (hd : ∀ σ H', Pv j.toNat σ H' → nx σ H') : ForR1 g tb ⟨nx, rt, bk, ct⟩ σ [.int j] H :=
  ⟨j, rfl, b1, b2, for_range (D := ⟨nx, rt, bk, ct⟩) Pv h0 (fun i σ H hi p => by rw [Int.zero_add]; exact hs i σ H (by omega) p) hd⟩
theorem f_rng2 {i j : Int} (Pv : Nat → L2.St → Hp → Prop) (b : -(2 ^ 62) ≤ i ∧ i < 2 ^ 62 ∧ -(2 ^ 62) ≤ j ∧ j < 2 ^ 62) (h0 : Pv 0 σ H)
    (hs : ∀ (k : Nat) σ H', i + (k : Int) < j → Pv k σ H' → g (.int (i + k)) σ H' fun σ2 H2 => tb ⟨Pv (k + 1), rt, nx, Pv (k + 1)⟩ σ2 H2) (hd : ∀ σ H', Pv (j - i).toNat σ H' → nx σ H') : ForR2 g tb ⟨nx, rt, bk, ct⟩ σ [.int i, .int j] H :=
  ⟨i, j, rfl, b, for_range (D := ⟨nx, rt, bk, ct⟩) Pv h0 (fun k σ H hi p => hs k σ H (by omega) p) hd⟩

/-! comprehensions: what each item gives (none: dropped), by a function -/
def LcE (R : Option V → Hp → Prop) (te : TE) (b : Bool) (σ : L2.St) (H : Hp) : Prop := if b = true then te σ H fun y H4 => R (some y) H4 else R none H
/-- one turn: the target, the test, the item -/
def LcT (g : TG) (tt : TT) (te : TE) (vs : List Nat) (σ : L2.St) (x : V) (H : Hp) (R : Option V → Hp → Prop) : Prop := g x (wipe σ vs) H fun σ2 H2 => wipe σ2 vs = wipe σ vs ∧ tt σ2 H2 fun b H3 => LcE R te b σ2 H3
theorem lce_T {R : Option V → Hp → Prop} (h : te σ H fun y H4 => R (some y) H4) : LcE R te true σ H := h
theorem lce_F {R : Option V → Hp → Prop} (h : R none H) : LcE R te false σ H := h
theorem lce_y {R : Option V → Hp → Prop} {P : Prop} {dP : Decidable P} (e : P) (h : te σ H fun y H4 => R (some y) H4) : LcE R te (decide P) σ H := by rw [decide_eq_true e]; exact h
theorem lce_n {R : Option V → Hp → Prop} {P : Prop} {dP : Decidable P} (e : ¬ P) (h : R none H) : LcE R te (decide P) σ H := by rw [decide_eq_false e]; exact h
theorem lce_not {R : Option V → Hp → Prop} {b : Bool} (h1 : b = false → te σ H fun y H4 => R (some y) H4) (h2 : b = true → R none H) : LcE R te (!b) σ H := by
  cases b
  · exact h1 rfl
  · exact h2 rfl
theorem lce_b {R : Option V → Hp → Prop} {b : Bool} (h1 : b = true → te σ H fun y H4 => R (some y) H4) (h2 : b = false → R none H) : LcE R te b σ H := by
  cases b
  · exact h2 rfl
  · exact h1 rfl
theorem g_yes {Q : Bool → Hp → Prop} (h : Q true H) : tYes σ H Q := h
def LcL (K : PySem.W.Frag) (g : TG) (tt : TT) (te : TE) (vs : List Nat) (σ : L2.St) (x : V) (H1 : Hp) (Q : VK) : Prop := ∃ a, x = .ref a ∧ (∃ xs, SqL K H1 a xs) ∧ ∀ D, H1 D = none → ∃ W : Nat → Nat → Hp → Prop, (∃ m, W 0 m (upd H1 D (.lst []))) ∧ ∀ i m H, W i m H →
  ((Itl K a).stop i H ∧ Q (.ref D) H) ∨ ((Itl K a).go i H ∧ ∃ Nx : Hp → Prop, (∀ H', Nx H' → ∃ m', m' < m ∧ W (i + 1) m' H') ∧ ∀ x H', (Itl K a).yld i H x H' → g x (wipe σ vs) H' fun σ2 H2 => wipe σ2 vs = wipe σ vs ∧ tt σ2 H2 fun b H3 =>
    if b = true then te σ2 H3 fun y H4 => ∃ acc, H4 D = some (.lst acc) ∧ acc.length < sizeLine ∧ Nx (upd H4 D (.lst (acc ++ [y]))) else Nx H3)
def LcR (lo : Int) (n : Nat) (g : TG) (tt : TT) (te : TE) (vs : List Nat) (σ : L2.St) (H1 : Hp) (Q : VK) : Prop := ∀ D, H1 D = none → ∃ W : Nat → Nat → Hp → Prop, (∃ m, W 0 m (upd H1 D (.lst []))) ∧ ∀ i m H, W i m H →
  ((Itr lo n).stop i H ∧ Q (.ref D) H) ∨ ((Itr lo n).go i H ∧ ∃ Nx : Hp → Prop, (∀ H', Nx H' → ∃ m', m' < m ∧ W (i + 1) m' H') ∧ ∀ x H', (Itr lo n).yld i H x H' → g x (wipe σ vs) H' fun σ2 H2 => wipe σ2 vs = wipe σ vs ∧ tt σ2 H2 fun b H3 =>
    if b = true then te σ2 H3 fun y H4 => ∃ acc, H4 D = some (.lst acc) ∧ acc.length < sizeLine ∧ Nx (upd H4 D (.lst (acc ++ [y]))) else Nx H3)
def LcR1 (g : TG) (tt : TT) (te : TE) (vs : List Nat) (σ : L2.St) (us : List V) (H1 : Hp) (Q : VK) : Prop := ∃ j : Int, us = [.int j] ∧ -(2 ^ 62) ≤ j ∧ j < 2 ^ 62 ∧ LcR 0 j.toNat g tt te vs σ H1 Q
def LcR2 (g : TG) (tt : TT) (te : TE) (vs : List Nat) (σ : L2.St) (us : List V) (H1 : Hp) (Q : VK) : Prop := ∃ i j : Int, us = [.int i, .int j] ∧ (-(2 ^ 62) ≤ i ∧ i < 2 ^ 62 ∧ -(2 ^ 62) ≤ j ∧ j < 2 ^ 62) ∧ LcR i (j - i).toNat g tt te vs σ H1 Q
theorem g_lcl (h : tl σ H fun x H1 => LcL K g tt te vs σ x H1 Q) : tLc (iList K tl) g tt te vs σ H Q := h
theorem g_lc1 (h : ta σ H fun us H1 => LcR1 g tt te vs σ us H1 Q) : tLc (iRng1 ta) g tt te vs σ H Q := h
theorem g_lc2 (h : ta σ H fun us H1 => LcR2 g tt te vs σ us H1 Q) : tLc (iRng2 ta) g tt te vs σ H Q := h
theorem take_fm {f : V → Option V} {xs : List V} {i : Nat} {x : V} (h : xs[i]? = some x) : (xs.take (i + 1)).filterMap f = (xs.take i).filterMap f ++ (match f x with | some y => [y] | none => []) := by
  rw [List.take_add_one, h, List.filterMap_append]
  show _ ++ List.filterMap f [x] = _
  rw [List.filterMap_cons, List.filterMap_nil]
  cases f x <;> rfl
theorem fm_len {f : V → Option V} : ∀ xs : List V, (xs.filterMap f).length ≤ xs.length
  | [] => Nat.le_refl _
  | x :: xs => by
    have := fm_len (f := f) xs
    rw [List.filterMap_cons]
    cases f x
    · show (xs.filterMap f).length ≤ _; rw [List.length_cons]; omega
    · show (_ :: xs.filterMap f).length ≤ _; rw [List.length_cons, List.length_cons]; omega
/-- a comprehension over a list; its items make nothing that stays in it -/
theorem lc_fun (f : V → Option V) (h1 : SqL K H a xs) (hz : xs.length ≤ 100000)
    (hs : ∀ x ∈ xs, ∀ H1, Same H H1 → ∀ R : Option V → Hp → Prop, (∀ H2, Same H1 H2 → R (f x) H2) → LcT g tt te vs σ x H1 R)
    (k : ∀ D H', Fr H D → Same H H' → H' D = some (.lst (xs.filterMap f)) → Q (.ref D) H') : LcL K g tt te vs σ (.ref a) H Q := by
  refine ⟨a, rfl, ⟨xs, h1⟩, fun D hD => lc_list (xs := xs) (fun i H' => i ≤ xs.length ∧ Same H H' ∧ H' D = some (.lst ((xs.take i).filterMap f))) ⟨Nat.zero_le _, same_upd hD, upd_same⟩ (fun i H' _ q => q.2.1.seq h1) ?_ ?_⟩
  · rintro i x H1 hx ⟨hi, sH, eD⟩
    have hlt : i < xs.length := (List.getElem?_eq_some_iff.mp hx).1
    refine hs x (List.mem_of_getElem? hx) H1 sH (fun o H4 => match o with
      | some y => ∃ acc, H4 D = some (.lst acc) ∧ acc.length < sizeLine ∧ (i + 1 ≤ xs.length ∧ Same H (upd H4 D (.lst (acc ++ [y]))) ∧ (upd H4 D (.lst (acc ++ [y]))) D = some (.lst ((xs.take (i + 1)).filterMap f)))
      | none => i + 1 ≤ xs.length ∧ Same H H4 ∧ H4 D = some (.lst ((xs.take (i + 1)).filterMap f))) fun H2 s2 => ?_
    have tk := take_fm (f := f) hx
    cases e : f x with
    | none =>
      rw [e] at tk
      exact ⟨hlt, sH.trans s2, by rw [tk, List.append_nil]; exact s2 _ _ eD⟩
    | some y =>
      rw [e] at tk
      refine ⟨_, s2 _ _ eD, ?_, hlt, fun b o q => ?_, by rw [upd_same, tk]⟩
      · have l1 := fm_len (f := f) (xs.take i)
        rw [List.length_take] at l1
        exact Nat.lt_of_le_of_lt (by omega : _ ≤ 100000) (by decide)
      · rw [upd_ne (ne_of_none q hD)]
        exact s2 _ _ (sH _ _ q)
  · rintro H1 ⟨_, sH, eD⟩
    rw [List.take_length] at eD
    exact k D H1 ⟨hD⟩ sH eD
/-- over a range -/
def rngV (lo : Int) (n : Nat) : List V := (List.range n).map fun i => V.int (lo + (i : Nat))
theorem rngV_at {lo : Int} {n i : Nat} (h : i < n) : (rngV lo n)[i]? = some (V.int (lo + (i : Nat))) := by
  unfold rngV
  rw [List.getElem?_map, List.getElem?_range h]
  rfl
theorem rngV_len (lo : Int) (n : Nat) : (rngV lo n).length = n := by unfold rngV; rw [List.length_map, List.length_range]
theorem lcr_fun {lo : Int} {n : Nat} (f : V → Option V) (hz : n ≤ 100000)
    (hs : ∀ i : Nat, i < n → ∀ H1, Same H H1 → ∀ R : Option V → Hp → Prop, (∀ H2, Same H1 H2 → R (f (.int (lo + i))) H2) → LcT g tt te vs σ (.int (lo + i)) H1 R)
    (k : ∀ D H', Fr H D → Same H H' → H' D = some (.lst ((rngV lo n).filterMap f)) → Q (.ref D) H') : LcR lo n g tt te vs σ H Q := by
  refine fun D hD => lc_range (fun i H' => i ≤ n ∧ Same H H' ∧ H' D = some (.lst (((rngV lo n).take i).filterMap f))) ⟨Nat.zero_le _, same_upd hD, upd_same⟩ ?_ ?_
  · rintro i H1 hlt ⟨hi, sH, eD⟩
    have hx := rngV_at (lo := lo) hlt
    refine hs i hlt H1 sH (fun o H4 => match o with
      | some y => ∃ acc, H4 D = some (.lst acc) ∧ acc.length < sizeLine ∧ (i + 1 ≤ n ∧ Same H (upd H4 D (.lst (acc ++ [y]))) ∧ (upd H4 D (.lst (acc ++ [y]))) D = some (.lst (((rngV lo n).take (i + 1)).filterMap f)))
      | none => i + 1 ≤ n ∧ Same H H4 ∧ H4 D = some (.lst (((rngV lo n).take (i + 1)).filterMap f))) fun H2 s2 => ?_
    have tk := take_fm (f := f) hx
    cases e : f (V.int (lo + (i : Nat))) with
    | none =>
      rw [e] at tk
      exact ⟨hlt, sH.trans s2, by rw [tk, List.append_nil]; exact s2 _ _ eD⟩
    | some y =>
      rw [e] at tk
      refine ⟨_, s2 _ _ eD, ?_, hlt, fun b o q => ?_, by rw [upd_same, tk]⟩
      · have l1 := fm_len (f := f) ((rngV lo n).take i)
        rw [List.length_take, rngV_len] at l1
        exact Nat.lt_of_le_of_lt (by omega : _ ≤ 100000) (by decide)
      · rw [upd_ne (ne_of_none q hD)]
        exact s2 _ _ (sH _ _ q)
  · rintro H1 ⟨_, sH, eD⟩
    have e1 : (rngV lo n).take n = rngV lo n := List.take_of_length_le (Nat.le_of_eq (rngV_len lo n))
    rw [e1] at eD
    exact k D H1 ⟨hD⟩ sH eD
theorem lcr1_fun {j : Int} (f : V → Option V) (b1 : -(2 ^ 62) ≤ j) (hz : j ≤ 100000)
    (hs : ∀ i : Nat, (i : Int) < j → ∀ H1, Same H H1 → ∀ R : Option V → Hp → Prop, (∀ H2, Same H1 H2 → R (f (.int i)) H2) → LcT g tt te vs σ (.int i) H1 R)
    (k : ∀ D H', Fr H D → Same H H' → H' D = some (.lst ((rngV 0 j.toNat).filterMap f)) → Q (.ref D) H') : LcR1 g tt te vs σ [.int j] H Q :=
  ⟨j, rfl, b1, by omega, lcr_fun f (by omega) (fun i hi H1 s1 R => by rw [Int.zero_add]; exact hs i (by omega) H1 s1 R) k⟩
theorem lcr2_fun {i j : Int} (f : V → Option V) (b1 : -(2 ^ 62) ≤ i ∧ i < 2 ^ 62 ∧ -(2 ^ 62) ≤ j ∧ j < 2 ^ 62) (hz : j - i ≤ 100000)
    (hs : ∀ k : Nat, i + (k : Int) < j → ∀ H1, Same H H1 → ∀ R : Option V → Hp → Prop, (∀ H2, Same H1 H2 → R (f (.int (i + k))) H2) → LcT g tt te vs σ (.int (i + k)) H1 R)
    (k : ∀ D H', Fr H D → Same H H' → H' D = some (.lst ((rngV i (j - i).toNat).filterMap f)) → Q (.ref D) H') : LcR2 g tt te vs σ [.int i, .int j] H Q :=
  ⟨i, j, rfl, b1, lcr_fun f (by omega) (fun k hk H1 s1 R => hs k (by omega) H1 s1 R) k⟩
end
end L3

namespace L3
open PySem L2 PyProof.Rows
section
variable {H : Hp} {tt : TT} {te : TE} {R : Option V → Hp → Prop} {v : V} {a0 a1 a2 a3 a4 a5 a6 a7 a8 a9 a10 a11 a12 a13 a14 a15 a16 a17 a18 a19 a20 : Option V} {r : L2.St}
theorem lct_0 (h : tt (some v :: r) H fun b H3 => LcE R te b (some v :: r) H3) : LcT (gName 0) tt te [0] (a0 :: r) v H R := ⟨rfl, h⟩
theorem lct_1 (h : tt (a0 :: some v :: r) H fun b H3 => LcE R te b (a0 :: some v :: r) H3) : LcT (gName 1) tt te [1] (a0 :: a1 :: r) v H R := ⟨rfl, h⟩
theorem lct_2 (h : tt (a0 :: a1 :: some v :: r) H fun b H3 => LcE R te b (a0 :: a1 :: some v :: r) H3) : LcT (gName 2) tt te [2] (a0 :: a1 :: a2 :: r) v H R := ⟨rfl, h⟩
theorem lct_3 (h : tt (a0 :: a1 :: a2 :: some v :: r) H fun b H3 => LcE R te b (a0 :: a1 :: a2 :: some v :: r) H3) : LcT (gName 3) tt te [3] (a0 :: a1 :: a2 :: a3 :: r) v H R := ⟨rfl, h⟩
theorem lct_4 (h : tt (a0 :: a1 :: a2 :: a3 :: some v :: r) H fun b H3 => LcE R te b (a0 :: a1 :: a2 :: a3 :: some v :: r) H3) : LcT (gName 4) tt te [4] (a0 :: a1 :: a2 :: a3 :: a4 :: r) v H R := ⟨rfl, h⟩
theorem lct_5 (h : tt (a0 :: a1 :: a2 :: a3 :: a4 :: some v :: r) H fun b H3 => LcE R te b (a0 :: a1 :: a2 :: a3 :: a4 :: some v :: r) H3) : LcT (gName 5) tt te [5] (a0 :: a1 :: a2 :: a3 :: a4 :: a5 :: r) v H R := ⟨rfl, h⟩
theorem lct_6 (h : tt (a0 :: a1 :: a2 :: a3 :: a4 :: a5 :: some v :: r) H fun b H3 => LcE R te b (a0 :: a1 :: a2 :: a3 :: a4 :: a5 :: some v :: r) H3) : LcT (gName 6) tt te [6] (a0 :: a1 :: a2 :: a3 :: a4 :: a5 :: a6 :: r) v H R := ⟨rfl, h⟩
theorem lct_7 (h : tt (a0 :: a1 :: a2 :: a3 :: a4 :: a5 :: a6 :: some v :: r) H fun b H3 => LcE R te b (a0 :: a1 :: a2 :: a3 :: a4 :: a5 :: a6 :: some v :: r) H3) : LcT (gName 7) tt te [7] (a0 :: a1 :: a2 :: a3 :: a4 :: a5 :: a6 :: a7 :: r) v H R := ⟨rfl, h⟩
theorem lct_8 (h : tt (a0 :: a1 :: a2 :: a3 :: a4 :: a5 :: a6 :: a7 :: some v :: r) H fun b H3 => LcE R te b (a0 :: a1 :: a2 :: a3 :: a4 :: a5 :: a6 :: a7 :: some v :: r) H3) : LcT (gName 8) tt te [8] (a0 :: a1 :: a2 :: a3 :: a4 :: a5 :: a6 :: a7 :: a8 :: r) v H R := ⟨rfl, h⟩
theorem lct_9 (h : tt (a0 :: a1 :: a2 :: a3 :: a4 :: a5 :: a6 :: a7 :: a8 :: some v :: r) H fun b H3 => LcE R te b (a0 :: a1 :: a2 :: a3 :: a4 :: a5 :: a6 :: a7 :: a8 :: some v :: r) H3) : LcT (gName 9) tt te [9] (a0 :: a1 :: a2 :: a3 :: a4 :: a5 :: a6 :: a7 :: a8 :: a9 :: r) v H R := ⟨rfl, h⟩
theorem lct_10 (h : tt (a0 :: a1 :: a2 :: a3 :: a4 :: a5 :: a6 :: a7 :: a8 :: a9 :: some v :: r) H fun b H3 => LcE R te b (a0 :: a1 :: a2 :: a3 :: a4 :: a5 :: a6 :: a7 :: a8 :: a9 :: some v :: r) H3) : LcT (gName 10) tt te [10] (a0 :: a1 :: a2 :: a3 :: a4 :: a5 :: a6 :: a7 :: a8 :: a9 :: a10 :: r) v H R := ⟨rfl, h⟩
theorem lct_11 (h : tt (a0 :: a1 :: a2 :: a3 :: a4 :: a5 :: a6 :: a7 :: a8 :: a9 :: a10 :: some v :: r) H fun b H3 => LcE R te b (a0 :: a1 :: a2 :: a3 :: a4 :: a5 :: a6 :: a7 :: a8 :: a9 :: a10 :: some v :: r) H3) : LcT (gName 11) tt te [11] (a0 :: a1 :: a2 :: a3 :: a4 :: a5 :: a6 :: a7 :: a8 :: a9 :: a10 :: a11 :: r) v H R := ⟨rfl, h⟩
theorem lct_12 (h : tt (a0 :: a1 :: a2 :: a3 :: a4 :: a5 :: a6 :: a7 :: a8 :: a9 :: a10 :: a11 :: some v :: r) H fun b H3 => LcE R te b (a0 :: a1 :: a2 :: a3 :: a4 :: a5 :: a6 :: a7 :: a8 :: a9 :: a10 :: a11 :: some v :: r) H3) : LcT (gName 12) tt te [12] (a0 :: a1 :: a2 :: a3 :: a4 :: a5 :: a6 :: a7 :: a8 :: a9 :: a10 :: a11 :: a12 :: r) v H R := ⟨rfl, h⟩
theorem lct_13 (h : tt (a0 :: a1 :: a2 :: a3 :: a4 :: a5 :: a6 :: a7 :: a8 :: a9 :: a10 :: a11 :: a12 :: some v :: r) H fun b H3 => LcE R te b (a0 :: a1 :: a2 :: a3 :: a4 :: a5 :: a6 :: a7 :: a8 :: a9 :: a10 :: a11 :: a12 :: some v :: r) H3) : LcT (gName 13) tt te [13] (a0 :: a1 :: a2 :: a3 :: a4 :: a5 :: a6 :: a7 :: a8 :: a9 :: a10 :: a11 :: a12 :: a13 :: r) v H R := ⟨rfl, h⟩
theorem lct_14 (h : tt (a0 :: a1 :: a2 :: a3 :: a4 :: a5 :: a6 :: a7 :: a8 :: a9 :: a10 :: a11 :: a12 :: a13 :: some v :: r) H fun b H3 => LcE R te b (a0 :: a1 :: a2 :: a3 :: a4 :: a5 :: a6 :: a7 :: a8 :: a9 :: a10 :: a11 :: a12 :: a13 :: some v :: r) H3) : LcT (gName 14) tt te [14] (a0 :: a1 :: a2 :: a3 :: a4 :: a5 :: a6 :: a7 :: a8 :: a9 :: a10 :: a11 :: a12 :: a13 :: a14 :: r) v H R := ⟨rfl, h⟩
theorem lct_15 (h : tt (a0 :: a1 :: a2 :: a3 :: a4 :: a5 :: a6 :: a7 :: a8 :: a9 :: a10 :: a11 :: a12 :: a13 :: a14 :: some v :: r) H fun b H3 => LcE R te b (a0 :: a1 :: a2 :: a3 :: a4 :: a5 :: a6 :: a7 :: a8 :: a9 :: a10 :: a11 :: a12 :: a13 :: a14 :: some v :: r) H3) : LcT (gName 15) tt te [15] (a0 :: a1 :: a2 :: a3 :: a4 :: a5 :: a6 :: a7 :: a8 :: a9 :: a10 :: a11 :: a12 :: a13 :: a14 :: a15 :: r) v H R := ⟨rfl, h⟩
theorem lct_16 (h : tt (a0 :: a1 :: a2 :: a3 :: a4 :: a5 :: a6 :: a7 :: a8 :: a9 :: a10 :: a11 :: a12 :: a13 :: a14 :: a15 :: some v :: r) H fun b H3 => LcE R te b (a0 :: a1 :: a2 :: a3 :: a4 :: a5 :: a6 :: a7 :: a8 :: a9 :: a10 :: a11 :: a12 :: a13 :: a14 :: a15 :: some v :: r) H3) : LcT (gName 16) tt te [16] (a0 :: a1 :: a2 :: a3 :: a4 :: a5 :: a6 :: a7 :: a8 :: a9 :: a10 :: a11 :: a12 :: a13 :: a14 :: a15 :: a16 :: r) v H R := ⟨rfl, h⟩
theorem lct_17 (h : tt (a0 :: a1 :: a2 :: a3 :: a4 :: a5 :: a6 :: a7 :: a8 :: a9 :: a10 :: a11 :: a12 :: a13 :: a14 :: a15 :: a16 :: some v :: r) H fun b H3 => LcE R te b (a0 :: a1 :: a2 :: a3 :: a4 :: a5 :: a6 :: a7 :: a8 :: a9 :: a10 :: a11 :: a12 :: a13 :: a14 :: a15 :: a16 :: some v :: r) H3) : LcT (gName 17) tt te [17] (a0 :: a1 :: a2 :: a3 :: a4 :: a5 :: a6 :: a7 :: a8 :: a9 :: a10 :: a11 :: a12 :: a13 :: a14 :: a15 :: a16 :: a17 :: r) v H R := ⟨rfl, h⟩
theorem lct_18 (h : tt (a0 :: a1 :: a2 :: a3 :: a4 :: a5 :: a6 :: a7 :: a8 :: a9 :: a10 :: a11 :: a12 :: a13 :: a14 :: a15 :: a16 :: a17 :: some v :: r) H fun b H3 => LcE R te b (a0 :: a1 :: a2 :: a3 :: a4 :: a5 :: a6 :: a7 :: a8 :: a9 :: a10 :: a11 :: a12 :: a13 :: a14 :: a15 :: a16 :: a17 :: some v :: r) H3) : LcT (gName 18) tt te [18] (a0 :: a1 :: a2 :: a3 :: a4 :: a5 :: a6 :: a7 :: a8 :: a9 :: a10 :: a11 :: a12 :: a13 :: a14 :: a15 :: a16 :: a17 :: a18 :: r) v H R := ⟨rfl, h⟩
theorem lct_19 (h : tt (a0 :: a1 :: a2 :: a3 :: a4 :: a5 :: a6 :: a7 :: a8 :: a9 :: a10 :: a11 :: a12 :: a13 :: a14 :: a15 :: a16 :: a17 :: a18 :: some v :: r) H fun b H3 => LcE R te b (a0 :: a1 :: a2 :: a3 :: a4 :: a5 :: a6 :: a7 :: a8 :: a9 :: a10 :: a11 :: a12 :: a13 :: a14 :: a15 :: a16 :: a17 :: a18 :: some v :: r) H3) : LcT (gName 19) tt te [19] (a0 :: a1 :: a2 :: a3 :: a4 :: a5 :: a6 :: a7 :: a8 :: a9 :: a10 :: a11 :: a12 :: a13 :: a14 :: a15 :: a16 :: a17 :: a18 :: a19 :: r) v H R := ⟨rfl, h⟩
theorem lct_20 (h : tt (a0 :: a1 :: a2 :: a3 :: a4 :: a5 :: a6 :: a7 :: a8 :: a9 :: a10 :: a11 :: a12 :: a13 :: a14 :: a15 :: a16 :: a17 :: a18 :: a19 :: some v :: r) H fun b H3 => LcE R te b (a0 :: a1 :: a2 :: a3 :: a4 :: a5 :: a6 :: a7 :: a8 :: a9 :: a10 :: a11 :: a12 :: a13 :: a14 :: a15 :: a16 :: a17 :: a18 :: a19 :: some v :: r) H3) : LcT (gName 20) tt te [20] (a0 :: a1 :: a2 :: a3 :: a4 :: a5 :: a6 :: a7 :: a8 :: a9 :: a10 :: a11 :: a12 :: a13 :: a14 :: a15 :: a16 :: a17 :: a18 :: a19 :: a20 :: r) v H R := ⟨rfl, h⟩
end
end L3

namespace L3
open PySem L2 PyProof.Rows
section
variable {σ : L2.St} {H : Hp} {nx bk ct : L2.St → Hp → Prop} {rt : VK} {ta : TA} {i j l : Nat} {u v w : V}
def Par2 (i j : Nat) (vs : List V) (σ : L2.St) (H : Hp) (nx : L2.St → Hp → Prop) : Prop := ∃ v w, vs = [v, w] ∧ nx ((σ.set i (some v)).set j (some w)) H
def Par3 (i j l : Nat) (vs : List V) (σ : L2.St) (H : Hp) (nx : L2.St → Hp → Prop) : Prop := ∃ u v w, vs = [u, v, w] ∧ nx (((σ.set i (some u)).set j (some v)).set l (some w)) H
theorem g_par (h : ta σ H fun vs H1 => Par2 i j vs σ H1 nx) : tPar i j ta ⟨nx, rt, bk, ct⟩ σ H := h
theorem g_par3 (h : ta σ H fun vs H1 => Par3 i j l vs σ H1 nx) : tPar3 i j l ta ⟨nx, rt, bk, ct⟩ σ H := h
theorem par2 (h : gName i v σ H fun σ1 H1 => gName j w σ1 H1 nx) : Par2 i j [v, w] σ H nx := ⟨v, w, rfl, h⟩
theorem par3 (h : gName i u σ H fun σ1 H1 => gName j v σ1 H1 fun σ2 H2 => gName l w σ2 H2 nx) : Par3 i j l [u, v, w] σ H nx := ⟨u, v, w, rfl, h⟩
end
end L3

/-! ### the rules that name the written part, with it as a letter (a comprehension's block has another context, but the same K) -/
namespace L3
open PySem L2 PyProof.Rows
section
variable {X : Cx} {K : PySem.W.Frag} {e o a b : Expr} {es : List Expr} {ta tb te to tl : TE} {t : TA} {f : Str} {pos pos' apos cpos : Pos} {tg : Expr} {ts : TGs} {n k : Nat}
theorem ptTK (hK : X.K = K) (ha : PE X a ta) (he : ∀ whole, isTrue a X.env whole = (do let v ← whole; standAt a.pos; holding [v] (truthy v))) : PT X a (tTr K ta) := by subst hK; exact ptT ha he
theorem pe_fldK (hK : X.K = K) (he : PE X e ta) (hb : attributeBase e f X.env (eval e X.env) = eval e X.env) : PE X (.Attribute e f pos) (tFld K ta f) := by subst hK; exact pe_fld he hb
theorem ps_fldK (hK : X.K = K) (ha : PE X o ta) {value : Expr} {tv : TE} (hv : PE X value tv) (hs : swapsWith value (some (.Attribute o f pos')) pos.line X.env = pure false) : PS X (.Assign [.Attribute o f pos'] value pos) (sFld K ta tv f) := by subst hK; exact ps_fld ha hv hs
theorem c_lenK (hK : X.K = K) : CallR X (.builtin "len") (rLen K) := by subst hK; exact c_len
theorem c_listK (hK : X.K = K) : CallR X (.type "list") (rListOf K) := by subst hK; exact c_list
theorem c_isiK (hK : X.K = K) : CallR X (.builtin "isinstance") (rIsi K) := by subst hK; exact call_isi
theorem c_sumK (hK : X.K = K) (hc : X.calm = true) : CallR X (.builtin "sum") (rSum K) := by subst hK; exact cr_sum hc
theorem c_max1K (hK : X.K = K) (hc : X.calm = true) : CallR X (.builtin "max") (rMax K) := by subst hK; exact cr_max hc
theorem c_min1K (hK : X.K = K) (hc : X.calm = true) : CallR X (.builtin "min") (rMin K) := by subst hK; exact cr_min hc
theorem c_allK (hK : X.K = K) (hc : X.calm = true) : CallR X (.builtin "all") (rAll K) := by subst hK; exact cr_all hc
theorem c_anyK (hK : X.K = K) (hc : X.calm = true) : CallR X (.builtin "any") (rAny K) := by subst hK; exact cr_any hc
theorem c_sortedK (hK : X.K = K) : CallR X (.builtin "sorted") (rSortedI K) := by subst hK; exact cr_sortedI
theorem ix_seqK (hK : X.K = K) : IxR X (rIx K) := by subst hK; exact ix_seq
theorem op_addK (hK : X.K = K) : OpR X (binaryOp .Add) (rOr rAddI (rOr rCat (rOr rAddS (rCatT K)))) := by subst hK; exact op_addU
theorem op_eqK (hK : X.K = K) (hu : X.A.units + 64 < cLine) : OpR X (compareOp .Eq) (rOr rEq (rEqD K)) := by subst hK; exact op_eqU hu
theorem op_neK (hK : X.K = K) (hu : X.A.units + 64 < cLine) : OpR X (compareOp .NotEq) (rOr rNe (rNeD K)) := by subst hK; exact op_neU hu
theorem op_inK (hK : X.K = K) : OpR X (compareOp .In) (rIn K false) := by subst hK; exact op_in_seq
theorem op_ninK (hK : X.K = K) : OpR X (compareOp .NotIn) (rIn K true) := by subst hK; exact op_notIn_seq
theorem pi_listK (hK : X.K = K) {l : Expr} (hl : PE X l tl) : PI X tg l (iList K tl) := by subst hK; exact pi_list hl
theorem pi_tupK (hK : X.K = K) {l : Expr} (hl : PE X l tl) : PI X tg l (iTup K tl) := by subst hK; exact pi_tup hl
theorem pg_tlK (hK : X.K = K) (hc : X.calm = true) (h : PGs X es ts)
    (hn : (assignEach es X.env).length = n := by rfl) (hst : (assignEach es X.env).findIdx? (·.1) = none := by rfl) : PG X (.Tuple es k pos) (gOr (gTup K n ts) (gLst K n ts)) := by subst hK; exact pg_or (pg_tup hc h hn hst) (pg_lst hc h hn hst)
theorem sl_listK (hK : X.K = K) : SlR X (rSlL K) := by subst hK; exact sl_list
theorem sl_tupK (hK : X.K = K) : SlR X (rSlT K) := by subst hK; exact sl_tup
theorem pe_notTK (hK : X.K = K) (ha : PE X a ta) : PE X (.UnaryOp .Not a pos) (tNotT K ta) := by subst hK; exact pe_notT ha
theorem pe_bm0K {T id : String} {name : Str} {r : V → List V → Hp → VK → Prop} (hK : X.K = K) (pa : PlainAttrs T) (slot : Slot T name id) (hty : typeOf (.builtin id) = pure (.type "method_descriptor")) (hm : MtR X id r) (ho : PE X o to)
    (hbase : attributeBase o name X.env (eval o X.env) = eval o X.env := by rfl) (hline : (apos.endLine == cpos.line) = true := by rfl) : PE X (.Call (.Attribute o name apos) [] [] cpos) (tBM0 K T r to) := by subst hK; exact pe_bm0 pa slot hty hm ho hbase hline
theorem pe_bmK {T id : String} {name : Str} {r : V → List V → Hp → VK → Prop} (hK : X.K = K) (pa : PlainAttrs T) (slot : Slot T name id) (hty : typeOf (.builtin id) = pure (.type "method_descriptor")) (hm : MtR X id r) (ho : PE X o to) (ha : PA X (e :: es) t)
    (hbase : attributeBase o name X.env (eval o X.env) = eval o X.env := by rfl)
    (hfew : ((backTo cpos (starEach (e :: es) X.env)).all (fun x => !x.1) && (backToKw cpos (keywordEach [] X.env)).all (fun x => x.1.isSome)
      && decide ((e :: es).length + ([] : List Keyword).length + (if ([] : List Keyword).isEmpty then 0 else 1) < 30)) = true := by rfl)
    (hline : (apos.endLine == cpos.line) = true := by rfl) (hs : starEach (e :: es) X.env = (false, eval e X.env) :: starEach es X.env := by rfl) (hplain : (backTo cpos (starEach es X.env)).any (·.1) = false := by rfl) :
    PE X (.Call (.Attribute o name apos) (e :: es) [] cpos) (tBM K T r to t) := by subst hK; exact pe_bm pa slot hty hm ho ha hbase hfew hline hs hplain
end
end L3

/-! ### loops that keep all but some slots, and only make objects -/
namespace L3
open PySem L2 PyProof.Rows
section
variable {K : PySem.W.Frag} {a : Addr} {σ : L2.St} {H : Hp} {xs : List V} {g : TG} {tb : TS} {nx bk ct : L2.St → Hp → Prop} {rt : VK}
theorem f_each1 (i0 : Nat) (h1 : H a = some (.lst xs)) (h0 : ∃ (v0 : Option V), σ = (σ.set i0 v0))
    (hs : ∀ x ∈ xs, ∀ (v0 : Option V) (H' : Hp), Same H H' → g x (σ.set i0 v0) H' fun σ2 H2 => tb ⟨fun σ3 H3 => (∃ (v0 : Option V), σ3 = (σ.set i0 v0)) ∧ Same H H3, rt, nx, fun σ3 H3 => (∃ (v0 : Option V), σ3 = (σ.set i0 v0)) ∧ Same H H3⟩ σ2 H2)
    (hd : ∀ (v0 : Option V) (H' : Hp), Same H H' → nx (σ.set i0 v0) H') : ForL K g tb ⟨nx, rt, bk, ct⟩ σ (.ref a) H := by
  refine f_list (fun _ σ3 H3 => (∃ (v0 : Option V), σ3 = (σ.set i0 v0)) ∧ Same H H3) (SqL.of h1) ⟨h0, Same.refl _⟩ (fun i σ' H' _ q => SqL.of (q.2 _ _ h1)) ?_ ?_
  · rintro i x σ' H' hx ⟨⟨v0, rfl⟩, s⟩
    exact hs x (List.mem_of_getElem? hx) v0 H' s
  · rintro σ' H' ⟨⟨v0, rfl⟩, s⟩
    exact hd v0 H' s
theorem f_each2 (i0 i1 : Nat) (h1 : H a = some (.lst xs)) (h0 : ∃ (v0 : Option V) (v1 : Option V), σ = ((σ.set i0 v0).set i1 v1))
    (hs : ∀ x ∈ xs, ∀ (v0 : Option V) (v1 : Option V) (H' : Hp), Same H H' → g x ((σ.set i0 v0).set i1 v1) H' fun σ2 H2 => tb ⟨fun σ3 H3 => (∃ (v0 : Option V) (v1 : Option V), σ3 = ((σ.set i0 v0).set i1 v1)) ∧ Same H H3, rt, nx, fun σ3 H3 => (∃ (v0 : Option V) (v1 : Option V), σ3 = ((σ.set i0 v0).set i1 v1)) ∧ Same H H3⟩ σ2 H2)
    (hd : ∀ (v0 : Option V) (v1 : Option V) (H' : Hp), Same H H' → nx ((σ.set i0 v0).set i1 v1) H') : ForL K g tb ⟨nx, rt, bk, ct⟩ σ (.ref a) H := by
  refine f_list (fun _ σ3 H3 => (∃ (v0 : Option V) (v1 : Option V), σ3 = ((σ.set i0 v0).set i1 v1)) ∧ Same H H3) (SqL.of h1) ⟨h0, Same.refl _⟩ (fun i σ' H' _ q => SqL.of (q.2 _ _ h1)) ?_ ?_
  · rintro i x σ' H' hx ⟨⟨v0, v1, rfl⟩, s⟩
    exact hs x (List.mem_of_getElem? hx) v0 v1 H' s
  · rintro σ' H' ⟨⟨v0, v1, rfl⟩, s⟩
    exact hd v0 v1 H' s
theorem f_each3 (i0 i1 i2 : Nat) (h1 : H a = some (.lst xs)) (h0 : ∃ (v0 : Option V) (v1 : Option V) (v2 : Option V), σ = (((σ.set i0 v0).set i1 v1).set i2 v2))
    (hs : ∀ x ∈ xs, ∀ (v0 : Option V) (v1 : Option V) (v2 : Option V) (H' : Hp), Same H H' → g x (((σ.set i0 v0).set i1 v1).set i2 v2) H' fun σ2 H2 => tb ⟨fun σ3 H3 => (∃ (v0 : Option V) (v1 : Option V) (v2 : Option V), σ3 = (((σ.set i0 v0).set i1 v1).set i2 v2)) ∧ Same H H3, rt, nx, fun σ3 H3 => (∃ (v0 : Option V) (v1 : Option V) (v2 : Option V), σ3 = (((σ.set i0 v0).set i1 v1).set i2 v2)) ∧ Same H H3⟩ σ2 H2)
    (hd : ∀ (v0 : Option V) (v1 : Option V) (v2 : Option V) (H' : Hp), Same H H' → nx (((σ.set i0 v0).set i1 v1).set i2 v2) H') : ForL K g tb ⟨nx, rt, bk, ct⟩ σ (.ref a) H := by
  refine f_list (fun _ σ3 H3 => (∃ (v0 : Option V) (v1 : Option V) (v2 : Option V), σ3 = (((σ.set i0 v0).set i1 v1).set i2 v2)) ∧ Same H H3) (SqL.of h1) ⟨h0, Same.refl _⟩ (fun i σ' H' _ q => SqL.of (q.2 _ _ h1)) ?_ ?_
  · rintro i x σ' H' hx ⟨⟨v0, v1, v2, rfl⟩, s⟩
    exact hs x (List.mem_of_getElem? hx) v0 v1 v2 H' s
  · rintro σ' H' ⟨⟨v0, v1, v2, rfl⟩, s⟩
    exact hd v0 v1 v2 H' s
theorem f_each4 (i0 i1 i2 i3 : Nat) (h1 : H a = some (.lst xs)) (h0 : ∃ (v0 : Option V) (v1 : Option V) (v2 : Option V) (v3 : Option V), σ = ((((σ.set i0 v0).set i1 v1).set i2 v2).set i3 v3))
    (hs : ∀ x ∈ xs, ∀ (v0 : Option V) (v1 : Option V) (v2 : Option V) (v3 : Option V) (H' : Hp), Same H H' → g x ((((σ.set i0 v0).set i1 v1).set i2 v2).set i3 v3) H' fun σ2 H2 => tb ⟨fun σ3 H3 => (∃ (v0 : Option V) (v1 : Option V) (v2 : Option V) (v3 : Option V), σ3 = ((((σ.set i0 v0).set i1 v1).set i2 v2).set i3 v3)) ∧ Same H H3, rt, nx, fun σ3 H3 => (∃ (v0 : Option V) (v1 : Option V) (v2 : Option V) (v3 : Option V), σ3 = ((((σ.set i0 v0).set i1 v1).set i2 v2).set i3 v3)) ∧ Same H H3⟩ σ2 H2)
    (hd : ∀ (v0 : Option V) (v1 : Option V) (v2 : Option V) (v3 : Option V) (H' : Hp), Same H H' → nx ((((σ.set i0 v0).set i1 v1).set i2 v2).set i3 v3) H') : ForL K g tb ⟨nx, rt, bk, ct⟩ σ (.ref a) H := by
  refine f_list (fun _ σ3 H3 => (∃ (v0 : Option V) (v1 : Option V) (v2 : Option V) (v3 : Option V), σ3 = ((((σ.set i0 v0).set i1 v1).set i2 v2).set i3 v3)) ∧ Same H H3) (SqL.of h1) ⟨h0, Same.refl _⟩ (fun i σ' H' _ q => SqL.of (q.2 _ _ h1)) ?_ ?_
  · rintro i x σ' H' hx ⟨⟨v0, v1, v2, v3, rfl⟩, s⟩
    exact hs x (List.mem_of_getElem? hx) v0 v1 v2 v3 H' s
  · rintro σ' H' ⟨⟨v0, v1, v2, v3, rfl⟩, s⟩
    exact hd v0 v1 v2 v3 H' s
theorem f_each5 (i0 i1 i2 i3 i4 : Nat) (h1 : H a = some (.lst xs)) (h0 : ∃ (v0 : Option V) (v1 : Option V) (v2 : Option V) (v3 : Option V) (v4 : Option V), σ = (((((σ.set i0 v0).set i1 v1).set i2 v2).set i3 v3).set i4 v4))
    (hs : ∀ x ∈ xs, ∀ (v0 : Option V) (v1 : Option V) (v2 : Option V) (v3 : Option V) (v4 : Option V) (H' : Hp), Same H H' → g x (((((σ.set i0 v0).set i1 v1).set i2 v2).set i3 v3).set i4 v4) H' fun σ2 H2 => tb ⟨fun σ3 H3 => (∃ (v0 : Option V) (v1 : Option V) (v2 : Option V) (v3 : Option V) (v4 : Option V), σ3 = (((((σ.set i0 v0).set i1 v1).set i2 v2).set i3 v3).set i4 v4)) ∧ Same H H3, rt, nx, fun σ3 H3 => (∃ (v0 : Option V) (v1 : Option V) (v2 : Option V) (v3 : Option V) (v4 : Option V), σ3 = (((((σ.set i0 v0).set i1 v1).set i2 v2).set i3 v3).set i4 v4)) ∧ Same H H3⟩ σ2 H2)
    (hd : ∀ (v0 : Option V) (v1 : Option V) (v2 : Option V) (v3 : Option V) (v4 : Option V) (H' : Hp), Same H H' → nx (((((σ.set i0 v0).set i1 v1).set i2 v2).set i3 v3).set i4 v4) H') : ForL K g tb ⟨nx, rt, bk, ct⟩ σ (.ref a) H := by
  refine f_list (fun _ σ3 H3 => (∃ (v0 : Option V) (v1 : Option V) (v2 : Option V) (v3 : Option V) (v4 : Option V), σ3 = (((((σ.set i0 v0).set i1 v1).set i2 v2).set i3 v3).set i4 v4)) ∧ Same H H3) (SqL.of h1) ⟨h0, Same.refl _⟩ (fun i σ' H' _ q => SqL.of (q.2 _ _ h1)) ?_ ?_
  · rintro i x σ' H' hx ⟨⟨v0, v1, v2, v3, v4, rfl⟩, s⟩
    exact hs x (List.mem_of_getElem? hx) v0 v1 v2 v3 v4 H' s
  · rintro σ' H' ⟨⟨v0, v1, v2, v3, v4, rfl⟩, s⟩
    exact hd v0 v1 v2 v3 v4 H' s
theorem f_each6 (i0 i1 i2 i3 i4 i5 : Nat) (h1 : H a = some (.lst xs)) (h0 : ∃ (v0 : Option V) (v1 : Option V) (v2 : Option V) (v3 : Option V) (v4 : Option V) (v5 : Option V), σ = ((((((σ.set i0 v0).set i1 v1).set i2 v2).set i3 v3).set i4 v4).set i5 v5))
    (hs : ∀ x ∈ xs, ∀ (v0 : Option V) (v1 : Option V) (v2 : Option V) (v3 : Option V) (v4 : Option V) (v5 : Option V) (H' : Hp), Same H H' → g x ((((((σ.set i0 v0).set i1 v1).set i2 v2).set i3 v3).set i4 v4).set i5 v5) H' fun σ2 H2 => tb ⟨fun σ3 H3 => (∃ (v0 : Option V) (v1 : Option V) (v2 : Option V) (v3 : Option V) (v4 : Option V) (v5 : Option V), σ3 = ((((((σ.set i0 v0).set i1 v1).set i2 v2).set i3 v3).set i4 v4).set i5 v5)) ∧ Same H H3, rt, nx, fun σ3 H3 => (∃ (v0 : Option V) (v1 : Option V) (v2 : Option V) (v3 : Option V) (v4 : Option V) (v5 : Option V), σ3 = ((((((σ.set i0 v0).set i1 v1).set i2 v2).set i3 v3).set i4 v4).set i5 v5)) ∧ Same H H3⟩ σ2 H2)
    (hd : ∀ (v0 : Option V) (v1 : Option V) (v2 : Option V) (v3 : Option V) (v4 : Option V) (v5 : Option V) (H' : Hp), Same H H' → nx ((((((σ.set i0 v0).set i1 v1).set i2 v2).set i3 v3).set i4 v4).set i5 v5) H') : ForL K g tb ⟨nx, rt, bk, ct⟩ σ (.ref a) H := by
  refine f_list (fun _ σ3 H3 => (∃ (v0 : Option V) (v1 : Option V) (v2 : Option V) (v3 : Option V) (v4 : Option V) (v5 : Option V), σ3 = ((((((σ.set i0 v0).set i1 v1).set i2 v2).set i3 v3).set i4 v4).set i5 v5)) ∧ Same H H3) (SqL.of h1) ⟨h0, Same.refl _⟩ (fun i σ' H' _ q => SqL.of (q.2 _ _ h1)) ?_ ?_
  · rintro i x σ' H' hx ⟨⟨v0, v1, v2, v3, v4, v5, rfl⟩, s⟩
    exact hs x (List.mem_of_getElem? hx) v0 v1 v2 v3 v4 v5 H' s
  · rintro σ' H' ⟨⟨v0, v1, v2, v3, v4, v5, rfl⟩, s⟩
    exact hd v0 v1 v2 v3 v4 v5 H' s

end
section
variable {K : PySem.W.Frag} {a : Addr} {σ : L2.St} {H : Hp} {Q : VK} {ta tb : TE} {P : Prop} {dP : Decidable P}
/-- a choice of which only F is known -/
theorem ife_val {F : V → Prop} (h1 : P → ∃ v, F v ∧ ∀ Q : VK, Q v H → ta σ H Q) (h2 : ¬ P → ∃ v, F v ∧ ∀ Q : VK, Q v H → tb σ H Q) (k : ∀ v, F v → Q v H) : IfER (decide P) ta tb σ H Q := by
  by_cases h : P
  · obtain ⟨v, f, e⟩ := h1 h
    exact ife_y h (e _ (k v f))
  · obtain ⟨v, f, e⟩ := h2 h
    exact ife_n h (e _ (k v f))
theorem ix_int {ns : List Int} {z : Int} (h1 : SqL K H a (ns.map V.int)) (h0 : 0 ≤ z) (hz : z < ns.length) : ∃ c : Int, ∀ Q : VK, Q (.int c) H → rIx K (.ref a) (.int z) H Q := by
  have hlt : z.toNat < ns.length := by omega
  exact ⟨ns[z.toNat], fun Q q => ix_sq h1 (at_of (j := z.toNat) (by omega) (by simp [hlt])) q⟩
end
end L3

/-! ### a condition told by its contrary -/
namespace L3
open PySem L2 PyProof.Rows
section
variable {σ : L2.St} {H : Hp} {Q : VK} {d : TT} {ta tb te : TE} {P : Prop} {dP : Decidable P} {R : Option V → Hp → Prop}
theorem and_ny {Q : Bool → Hp → Prop} (e : P) (h : Q false H) : AndR (!decide P) d σ H Q := by rw [decide_eq_true e]; exact h
theorem and_nn {Q : Bool → Hp → Prop} (e : ¬ P) (h : d σ H Q) : AndR (!decide P) d σ H Q := by rw [decide_eq_false e]; exact h
theorem or_ny {Q : Bool → Hp → Prop} (e : P) (h : d σ H Q) : OrR (!decide P) d σ H Q := by rw [decide_eq_true e]; exact h
theorem or_nn {Q : Bool → Hp → Prop} (e : ¬ P) (h : Q true H) : OrR (!decide P) d σ H Q := by rw [decide_eq_false e]; exact h
theorem not_ny {Q : Bool → Hp → Prop} (e : P) (h : Q true H) : NotR (!decide P) H Q := by rw [decide_eq_true e]; exact h
theorem not_nn {Q : Bool → Hp → Prop} (e : ¬ P) (h : Q false H) : NotR (!decide P) H Q := by rw [decide_eq_false e]; exact h
theorem andv_ny (e : P) (h : Q (.bl false) H) : AndVR (.bl (!decide P)) tb σ H Q := by rw [decide_eq_true e]; exact andv_F h
theorem andv_nn (e : ¬ P) (h : tb σ H Q) : AndVR (.bl (!decide P)) tb σ H Q := by rw [decide_eq_false e]; exact andv_T h
theorem orv_ny (e : P) (h : tb σ H Q) : OrVR (.bl (!decide P)) tb σ H Q := by rw [decide_eq_true e]; exact orv_F h
theorem orv_nn (e : ¬ P) (h : Q (.bl true) H) : OrVR (.bl (!decide P)) tb σ H Q := by rw [decide_eq_false e]; exact orv_T h
theorem ife_ny (e : P) (h : tb σ H Q) : IfER (!decide P) ta tb σ H Q := by rw [decide_eq_true e]; exact h
theorem ife_nn (e : ¬ P) (h : ta σ H Q) : IfER (!decide P) ta tb σ H Q := by rw [decide_eq_false e]; exact h
theorem lce_ny (e : P) (h : R none H) : LcE R te (!decide P) σ H := by rw [decide_eq_true e]; exact h
theorem lce_nn (e : ¬ P) (h : te σ H fun y H4 => R (some y) H4) : LcE R te (!decide P) σ H := by rw [decide_eq_false e]; exact h
end
end L3

set_option Elab.async false
set_option linter.all false
set_option maxRecDepth 100000
set_option maxHeartbeats 2000000
/-! Operators that an own class defines: their rules over the layer. -/
namespace L3
open PySem PySem.Calls PyProof.Rows PySem.W
section
variable {prog : Program} {w : World} {M : Model} {A : Around} {E : Value → Shared → Prop} {s : Shared} {K : PySem.W.Frag} {x y C f : Addr} {h₀ : Heap} {ox oy : Obj} {od od' : Option Obj} {v : Value} {m : PySem.Str → Option Value} {L : Addr}
theorem own_has {Q : Bool → Shared → Prop} (X : K.In s.heap) (I : InstAt s.heap x ox C od) (hs : findIn K (.ref C) "__contains__" = some (some (.ref f))) (hf : isFn K (.ref f) = true)
    (h : wpAny M A (call (.ref f) [.ref x, v]) (fun r s' => ∃ b, r = .bool b ∧ Q b s') E s) : wpAny M A (contains (.ref x) v) Q E s := by
  have one := h
  obtain ⟨hh, g, d, tt, os⟩ := s
  have l1 : Looks M hh (typeOf (.ref x)) (.ref C) := I.type
  have l2 : Looks M hh (typeLookup (.ref C) "__contains__") (some (.ref f)) := looks_findIn X hs
  have l3 : Looks M hh (bindSpecial (.ref f) (.ref x)) (.ref f, [.ref x]) := bind_fn X _ (beq_iff_eq.mp hf)
  unfold contains
  refine wpAny_holding ?_
  have e0 : stdlibNamesSay? (.ref x) v = none := by cases v <;> rfl
  rw [e0]
  unfold callSpecialUnlessNone? specialOf
  repeat ((fail_if_success (with_reducible show wpAny _ _ (call _ _) _ _ _)); lk)
  refine wpAny_mono one (fun r s' z => ?_) fun _ _ e => e
  obtain ⟨b, e, q⟩ := z
  subst e
  lk
  lk
  exact wpAny_truthy_bool q
theorem own_in {Q : Value → Shared → Prop} (X : K.In s.heap) (I : InstAt s.heap x ox C od) (hs : findIn K (.ref C) "__contains__" = some (some (.ref f))) (hf : isFn K (.ref f) = true)
    (h : wpAny M A (call (.ref f) [.ref x, v]) (fun r s' => ∃ b, r = .bool b ∧ Q (.bool b) s') E s) : wpAny M A (compareOp .In v (.ref x)) Q E s := by
  show wpAny M A (contains (.ref x) v >>= fun b => pure (.bool b)) Q E _
  exact wpAny_bind (own_has X I hs hf (wpAny_mono h (fun r s' ⟨b, e, q⟩ => ⟨b, e, wpAny_pure q⟩) fun _ _ e => e))
theorem own_nin {Q : Value → Shared → Prop} (X : K.In s.heap) (I : InstAt s.heap x ox C od) (hs : findIn K (.ref C) "__contains__" = some (some (.ref f))) (hf : isFn K (.ref f) = true)
    (h : wpAny M A (call (.ref f) [.ref x, v]) (fun r s' => ∃ b, r = .bool b ∧ Q (.bool (!b)) s') E s) : wpAny M A (compareOp .NotIn v (.ref x)) Q E s := by
  show wpAny M A (contains (.ref x) v >>= fun b => pure (.bool (!b))) Q E _
  exact wpAny_bind (own_has X I hs hf (wpAny_mono h (fun r s' ⟨b, e, q⟩ => ⟨b, e, wpAny_pure q⟩) fun _ _ e => e))
/-- two instances of one class -/
theorem own_bin {op : Operator} {Q : Value → Shared → Prop} (X : K.In s.heap) (I : InstAt s.heap x ox C od) (I' : InstAt s.heap y oy C od') (hc : selfFirst K C = true)
    (hs : findIn K (.ref C) (PySem.dunder op.info.2) = some (some (.ref f))) (hf : isFn K (.ref f) = true)
    (h : wpAny (model prog w) A (call (.ref f) [.ref x, .ref y]) (PySem.W.CmpBack Q) E s) : wpAny (model prog w) A (binaryOp op (.ref x) (.ref y)) Q E s := by
  obtain ⟨cd, rest, hcd, hm⟩ := ksp_first hc
  rcases hi : op.info with ⟨sym, nm'⟩
  rw [hi] at hs
  dsimp only at hs
  have one := ksp_try X I hs hf h
  obtain ⟨hh, g, d, tt, os⟩ := s
  have l1 : Looks (model prog w) hh (typeOf (.ref x)) (.ref C) := I.type
  have l2 : Looks (model prog w) hh (typeOf (.ref y)) (.ref C) := I'.type
  have l3 : Looks (model prog w) hh (fillsNumberSlot (.ref C) nm') true := fills_K X hcd hm hs
  simp only [binaryOp, hi]
  refine wpAny_holding (wpAny_bind ?_)
  unfold binaryOp1
  refine wpAny_bind (l1.at (wpAny_bind (l2.at (wpAny_bind (l3.at ?_)))))
  simp only [beq_self_eq_true, if_true]
  ksp_lk
  refine wpAny_mono one (fun r s' hr' => ?_) fun _ _ e => e
  obtain ⟨v, rfl, hq⟩ := hr'
  ksp_lk
  exact hq
end
end L3

namespace L3
open PySem L2 PyProof.Rows
section
variable {X : Cx} {CX : CXT} {k : Nat} {C f : Addr} {fd : FuncData} {ps : List PySem.Str} {sp : Sp} {E : XK} {K : PySem.W.Frag}
/-- an instance, as the machine has it -/
theorem inst_of {pins : List (Addr × Obj)} {σ : L2.St} {H : Hp} {s : Shared} {a dx : Addr} {fs : List (PySem.Str × V)} (I : Inv X pins σ H s) (ea : H a = some (.ins C dx fs)) : ∃ ox od, PySem.W.InstAt s.heap a ox C (some od) := by
  obtain ⟨mA, O, _⟩ := ins_get I.hok ea
  obtain ⟨od, J, _⟩ := O.look
  exact ⟨_, od, J⟩
/-- x op y by the def at f of x's class; y an instance of the same class -/
def rOwn2 (C : Addr) (sp : Sp) (E : XK) : R2 := fun x y H Q => ∃ a dx fs b dy gs, x = .ref a ∧ y = .ref b ∧ H a = some (.ins C dx fs) ∧ H b = some (.ins C dy gs) ∧ sp [.ref a, .ref b] H Q E
theorem op_own2 {op : Operator} (hc : PySem.W.selfFirst X.K C = true) (hs : PySem.W.findIn X.K (.ref C) (PySem.dunder op.info.2) = some (some (.ref f))) (hf : PySem.W.isFn X.K (.ref f) = true)
    (F : FnOk X.prog X.w X.K X.mg X.base CX k f fd ps sp) (hr : Room k X.A) (hb : Binds X.K fd ps []) (hx : Passes CX X E) : OpR X (binaryOp op) (rOwn2 C sp E) := by
  intro pins s σ H x y v u Q I rx ry h
  obtain ⟨a, dx, fs, b, dy, gs, rfl, rfl, ea, eb, q⟩ := h
  cases (show v = Value.ref a from rx)
  cases (show u = Value.ref b from ry)
  obtain ⟨ox, od, J⟩ := inst_of I ea
  obtain ⟨oy, od', J'⟩ := inst_of I eb
  refine own_bin I.kIn J J' hc hs hf ?_
  refine wpAny_mono (run_fn (us := [.ref a, .ref b]) (vs := [.ref a, .ref b]) F hr hb .nil hx I (.cons rfl (.cons rfl .nil)) q) (fun r s' z => ?_) fun _ _ e => e
  obtain ⟨z', H', I', rz, qz⟩ := z
  exact SlX.cmpback rz ⟨z', H', I', rz, qz⟩
/-- x == y of two instances of one class -/
theorem op_ownEq (hs : PySem.W.findIn X.K (.ref C) "__eq__" = some (some (.ref f))) (hf : PySem.W.isFn X.K (.ref f) = true)
    (F : FnOk X.prog X.w X.K X.mg X.base CX k f fd ps sp) (hr : Room k X.A) (hb : Binds X.K fd ps []) (hx : Passes CX X E) : OpR X (compareOp .Eq) (rOwn2 C sp E) := by
  intro pins s σ H x y v u Q I rx ry h
  obtain ⟨a, dx, fs, b, dy, gs, rfl, rfl, ea, eb, q⟩ := h
  cases (show v = Value.ref a from rx)
  cases (show u = Value.ref b from ry)
  obtain ⟨ox, od, J⟩ := inst_of I ea
  obtain ⟨oy, od', J'⟩ := inst_of I eb
  obtain ⟨m, hF⟩ := I.fr
  refine PySem.W.cmp_K (op := .Eq) (tb := .ref C) hr.units0 hF I.ok.mod.kin J J'.type (by simp [PySem.W.notFirst]) hs hf ?_
  refine wpAny_mono (run_fn (us := [.ref a, .ref b]) (vs := [.ref a, .ref b]) F hr hb .nil hx I (.cons rfl (.cons rfl .nil)) q) (fun r s' z => ?_) fun _ _ e => e
  obtain ⟨z', H', I', rz, qz⟩ := z
  exact SlX.cmpback rz ⟨z', H', I', rz, qz⟩
/-- v in x, x an instance -/
def rOwnIn (C : Addr) (neg : Bool) (sp : Sp) (E : XK) : R2 := fun x y H Q => ∃ b dy gs, y = .ref b ∧ H b = some (.ins C dy gs) ∧ sp [.ref b, x] H (fun z H' => ∃ k, z = .bl k ∧ Q (.bl (if neg then !k else k)) H') E
theorem op_ownIn (hs : PySem.W.findIn X.K (.ref C) "__contains__" = some (some (.ref f))) (hf : PySem.W.isFn X.K (.ref f) = true)
    (F : FnOk X.prog X.w X.K X.mg X.base CX k f fd ps sp) (hr : Room k X.A) (hb : Binds X.K fd ps []) (hx : Passes CX X E) : OpR X (compareOp .In) (rOwnIn C false sp E) := by
  intro pins s σ H x y v u Q I rx ry h
  obtain ⟨b, dy, gs, rfl, eb, q⟩ := h
  cases (show u = Value.ref b from ry)
  obtain ⟨oy, od', J'⟩ := inst_of I eb
  refine own_in I.kIn J' hs hf ?_
  refine wpAny_mono (run_fn (us := [.ref b, v]) (vs := [.ref b, x]) F hr hb .nil hx I (.cons rfl (.cons rx .nil)) q) (fun r s' z => ?_) fun _ _ e => e
  obtain ⟨z', H', I', rz, k, e, qz⟩ := z
  subst e
  cases rz
  exact ⟨k, rfl, .bl k, H', I', rfl, qz⟩
theorem op_ownNin (hs : PySem.W.findIn X.K (.ref C) "__contains__" = some (some (.ref f))) (hf : PySem.W.isFn X.K (.ref f) = true)
    (F : FnOk X.prog X.w X.K X.mg X.base CX k f fd ps sp) (hr : Room k X.A) (hb : Binds X.K fd ps []) (hx : Passes CX X E) : OpR X (compareOp .NotIn) (rOwnIn C true sp E) := by
  intro pins s σ H x y v u Q I rx ry h
  obtain ⟨b, dy, gs, rfl, eb, q⟩ := h
  cases (show u = Value.ref b from ry)
  obtain ⟨oy, od', J'⟩ := inst_of I eb
  refine own_nin I.kIn J' hs hf ?_
  refine wpAny_mono (run_fn (us := [.ref b, v]) (vs := [.ref b, x]) F hr hb .nil hx I (.cons rfl (.cons rx .nil)) q) (fun r s' z => ?_) fun _ _ e => e
  obtain ⟨z', H', I', rz, k, e, qz⟩ := z
  subst e
  cases rz
  exact ⟨k, rfl, .bl (!k), H', I', rfl, qz⟩
/-- ~x -/
def rOwn1 (C : Addr) (sp : Sp) (E : XK) : V → Hp → VK → Prop := fun x H Q => ∃ a dx fs, x = .ref a ∧ H a = some (.ins C dx fs) ∧ sp [.ref a] H Q E
theorem un_ownInv (hs : PySem.W.findIn X.K (.ref C) "__invert__" = some (some (.ref f))) (hf : PySem.W.isFn X.K (.ref f) = true)
    (F : FnOk X.prog X.w X.K X.mg X.base CX k f fd ps sp) (hr : Room k X.A) (hb : Binds X.K fd ps []) (hx : Passes CX X E) : UnR X (unaryOp .Invert) (rOwn1 C sp E) := by
  intro pins s σ H x v Q I rx h
  obtain ⟨a, dx, fs, rfl, ea, q⟩ := h
  cases (show v = Value.ref a from rx)
  obtain ⟨ox, od, J⟩ := inst_of I ea
  obtain ⟨m, hF⟩ := I.fr
  exact PySem.W.ksp_inv hF I.ok.mod.kin J hs hf (run_fn (us := [.ref a]) (vs := [.ref a]) F hr hb .nil hx I (.cons rfl .nil) q)
end
section
variable {H : Hp} {Q : VK} {C a b dx dy : Addr} {fs gs : List (PySem.Str × V)} {sp : Sp} {E : XK} {x : V} {neg : Bool}
theorem w_own2 (h1 : H a = some (.ins C dx fs)) (h2 : H b = some (.ins C dy gs)) (h : sp [.ref a, .ref b] H Q E) : rOwn2 C sp E (.ref a) (.ref b) H Q := ⟨a, dx, fs, b, dy, gs, rfl, rfl, h1, h2, h⟩
theorem w_own1 (h1 : H a = some (.ins C dx fs)) (h : sp [.ref a] H Q E) : rOwn1 C sp E (.ref a) H Q := ⟨a, dx, fs, rfl, h1, h⟩
def OwnB (neg : Bool) (Q : VK) : VK := fun z H' => ∃ k, z = .bl k ∧ Q (.bl (if neg then !k else k)) H'
theorem w_ownin (h1 : H b = some (.ins C dy gs)) (h : sp [.ref b, x] H (OwnB neg Q) E) : rOwnIn C neg sp E x (.ref b) H Q := ⟨b, dy, gs, rfl, h1, h⟩
theorem w_b0 {k : Bool} (h : Q (.bl k) H) : OwnB false Q (.bl k) H := ⟨k, rfl, h⟩
theorem w_b1 {k : Bool} (h : Q (.bl (!k)) H) : OwnB true Q (.bl k) H := ⟨k, rfl, h⟩
end
end L3

/-! != by object's __ne__ over an own __eq__ -/
namespace L3
open PySem PySem.Calls PyProof.Rows PySem.W
section
variable {prog : Program} {w : World} {A : Around} {E : Value → Shared → Prop} {s : Shared} {K : PySem.W.Frag} {x y C f : Addr} {ox oy : Obj} {od od' : Option Obj}
theorem chk_ne {M : Model} {y : Value} {Q : Unit → Shared → Prop} (X : K.In s.heap) (I : InstAt s.heap x ox C od) (hsub : subIn K (.ref C) (.type "object") = some true) (hq : Q () s) :
    wpAny M A (checkBuiltinCall "object.__ne__" ⟨[.ref x, y], []⟩) Q E s := by
  obtain ⟨hh, g, d, tt, os⟩ := s
  have l1 : Looks M hh (typeOf (.ref x)) (.ref C) := I.type
  have l2 : Looks M hh (isSubtype (.ref C) (.type "object")) true := looks_subIn X hsub
  simp only [checkBuiltinCall, PySem.F.cmpKind_ne, PySem.F.cmpSplit_ne]
  refine wpAny_bind ?_
  · unfold isInstance
    repeat lk
    exact hq
theorem ob_ne {Q : Fin → Shared → Prop} (X : K.In s.heap) (I : InstAt s.heap x ox C od) (hs : findIn K (.ref C) "__eq__" = some (some (.ref f))) (hf : isFn K (.ref f) = true) (hu : A.units < cLine)
    (hcall : wpAny (model prog w) A (call (.ref f) [.ref x, .ref y]) (fun v s' => ∃ b, v = .bool b ∧ Q (.done (.ret (.bool (!b)))) s') E s) :
    wpAny (model prog w) A (Builtin.«object.__ne__» ⟨[.ref x, .ref y], []⟩) Q E s := by
  unfold Builtin.«object.__ne__»
  repeat (first
    | with_reducible refine wpAny_cRoomFor hu ?_
    | (refine wpAny_bind (m := callSpecialIfBound? (.ref x) (PySem.Str.ofString "__eq__") [.ref y])
        (ifBound_K X I hs hf (wpAny_mono hcall (fun r s' hr => by
          obtain ⟨b, rfl, hq⟩ := hr
          repeat (first | exact hq | exact wpAny_pure hq | exact wpAny_truthy_bool hq | (refine wpAny_bind (m := truthy (.bool _)) (wpAny_truthy_bool ?_)) | wp_step)) fun _ _ e => e)))
    | wp_step)
end
end L3

namespace L3
open PySem PySem.Calls PyProof.Rows PySem.W
section
variable {prog : Program} {w : World} {A : Around} {E : Value → Shared → Prop} {s : Shared} {K : PySem.W.Frag} {x y C f : Addr} {ox oy : Obj} {od od' : Option Obj}
theorem try_ne {Q : Option Value → Shared → Prop} (X : K.In s.heap) (I : InstAt s.heap x ox C od) (hs : findIn K (.ref C) "__eq__" = some (some (.ref f))) (hf : isFn K (.ref f) = true) (hn : findIn K (.ref C) "__ne__" = some (some (.builtin "object.__ne__")))
    (hsub : subIn K (.ref C) (.type "object") = some true) (hu : A.units + 1 < cLine)
    (hcall : wpAny (model prog w) A.in1 (call (.ref f) [.ref x, .ref y]) (fun v s' => ∃ b, v = .bool b ∧ Q (some (.bool (!b))) s') E s) :
    wpAny (model prog w) A (tryCompare (.ref x) "__ne__" (.ref y)) Q E s := by
  simp only [tryCompare, callSpecialIfBound?, bindSpecialIfBound?]
  have bnd : bindSpecial (.builtin "object.__ne__") (.ref x) = pure (.builtin "object.__ne__", [.ref x]) := PySem.F.cmp_object.ne.bind (.ref x)
  have body : wpAny (model prog w) A (call (.builtin "object.__ne__") [.ref x, .ref y]) (fun v s' => ∃ b, v = .bool (!b) ∧ Q (some (.bool (!b))) s') E s :=
    wpAny_call (codeAny_call_builtin PySem.F.cmp_object.ne.plain PySem.F.cmpEntry_ne (chk_ne X I hsub (ob_ne (A := A.in1) X I hs hf hu (wpAny_mono hcall (fun v s' hv => by
      obtain ⟨b, rfl, hq⟩ := hv
      exact ⟨b, rfl, b, rfl, hq⟩) fun _ _ e => e))))
  refine wpAny_bind (wpAny_holding (wpAny_bind (wpAny_bind (wpAny_bind (I.type.here ((looks_findIn X hn).here ?_))))))
  simp only [bnd]
  refine wpAny_bind (wpAny_askSetting (wpAny_ite ?_))
  have fin : wpAny (model prog w) A (call (.builtin "object.__ne__") ([.ref x] ++ [.ref y]) >>= fun v => pure (some v)) (fun a s' => wpAny (model prog w) A (match a with | some .notImplemented | none => pure none | some v => pure (some v)) Q E s') E s :=
    wpAny_bind (wpAny_mono body (fun v s' h' => by
      obtain ⟨b, rfl, hq⟩ := h'
      exact wpAny_pure (wpAny_pure hq)) fun _ _ h' => h')
  split
  · exact wpAny_bind (wpAny_pure (wpAny_pure (by exact fin)))
  · exact wpAny_tryCatch (wpAny_bind (wpAny_pure (wpAny_pure (by exact fin))))
theorem own_ne {Q : Value → Shared → Prop} (X : K.In s.heap) (I : InstAt s.heap x ox C od) (I' : InstAt s.heap y oy C od') (hs : findIn K (.ref C) "__eq__" = some (some (.ref f))) (hf : isFn K (.ref f) = true)
    (hn : findIn K (.ref C) "__ne__" = some (some (.builtin "object.__ne__"))) (hsub : subIn K (.ref C) (.type "object") = some true) (hu : A.units + 1 < cLine)
    (hcall : wpAny (model prog w) A.in1 (call (.ref f) [.ref x, .ref y]) (fun v s' => ∃ b, v = .bool b ∧ Q (.bool (!b)) s') E s) :
    wpAny (model prog w) A (compareOp .NotEq (.ref x) (.ref y)) Q E s := by
  show wpAny (model prog w) A (richCompare .NotEq (.ref x) (.ref y)) Q E s
  unfold richCompare
  simp only [oneThing_ref]
  refine wpAny_holding ?_
  refine wpAny_bind (wpAny_cRoomFor (Nat.lt_of_succ_lt hu) ?_)
  rw [cmpInfo_NotEq]
  dsimp only
  refine wpAny_bind (I.type.here (wpAny_bind (I'.type.here ?_)))
  rw [show (Value.ref C != Value.ref C) = false from by simp]
  simp only [Bool.false_eq_true, if_false]
  refine wpAny_bind (wpAny_pure ?_)
  simp only [Bool.false_eq_true, if_false]
  refine wpAny_bind (try_ne X I hs hf hn hsub hu (wpAny_mono hcall (fun v s' hv => ?_) fun _ _ e => e))
  obtain ⟨b, rfl, hq⟩ := hv
  first | exact ⟨b, rfl, wpAny_pure hq⟩ | exact ⟨b, rfl, wpAny_pure (wpAny_pure hq)⟩
end
end L3
namespace L3
open PySem L2 PyProof.Rows
section
variable {X : Cx} {CX : CXT} {k : Nat} {C f : Addr} {fd : FuncData} {ps : List PySem.Str} {sp : Sp} {E : XK}
/-- x != y of two instances of one class with an own __eq__ -/
def rOwnNe (C : Addr) (sp : Sp) (E : XK) : R2 := fun x y H Q => ∃ a dx fs b dy gs, x = .ref a ∧ y = .ref b ∧ H a = some (.ins C dx fs) ∧ H b = some (.ins C dy gs) ∧ sp [.ref a, .ref b] H (OwnB true Q) E
theorem op_ownNe (hs : PySem.W.findIn X.K (.ref C) "__eq__" = some (some (.ref f))) (hf : PySem.W.isFn X.K (.ref f) = true) (hn : PySem.W.findIn X.K (.ref C) "__ne__" = some (some (.builtin "object.__ne__")))
    (hsub : PySem.W.subIn X.K (.ref C) (.type "object") = some true)
    (F : FnOk X.prog X.w X.K X.mg X.base CX k f fd ps sp) (hr : Room (k + 1) X.A) (hb : Binds X.K fd ps []) (hx : Passes CX X.nox E) : OpR X (compareOp .NotEq) (rOwnNe C sp E) := by
  intro pins s σ H x y v u Q I rx ry h
  obtain ⟨a, dx, fs, b, dy, gs, rfl, rfl, ea, eb, q⟩ := h
  cases (show v = Value.ref a from rx)
  cases (show u = Value.ref b from ry)
  obtain ⟨ox, od, J⟩ := inst_of I ea
  obtain ⟨oy, od', J'⟩ := inst_of I eb
  have hu : X.A.units + 1 < cLine := hu_of hr
  refine own_ne I.kIn J J' hs hf hn hsub hu ?_
  have r2 : Vals [V.ref a, V.ref b] [Value.ref a, Value.ref b] := .cons rfl (.cons rfl .nil)
  have hl : ([Value.ref a, Value.ref b] ++ ([] : List Value)).length = ps.length := by rw [← F.len _ _ _ _ q]; rfl
  refine wpAny_call (codeAny_mono (F.run X.A.in1 X.stack s H ⟨[.ref a, .ref b], []⟩ [.ref a, .ref b] [.ref a, .ref b] _ E hr.in1 I.env0.in1 (by
    have := hb s [.ref a, .ref b] I.kIn hl
    simpa using this) r2 q) fun r s' hq => ?_)
  cases r with
  | error e => exact False.elim (hx pins σ H s e s' (I.wish _) hq)
  | ok fl =>
    cases fl with
    | ret w' =>
      obtain ⟨z, H', I', rz, kb, ez, qz⟩ := I.after hq
      subst ez
      cases rz
      exact ⟨kb, rfl, .bl (!kb), H', I', rfl, qz⟩
    | next => exact False.elim hq
    | brk => exact False.elim hq
    | cont => exact False.elim hq
end
section
variable {H : Hp} {Q : VK} {C a b dx dy : Addr} {fs gs : List (PySem.Str × V)} {sp : Sp} {E : XK}
theorem w_ownne (h1 : H a = some (.ins C dx fs)) (h2 : H b = some (.ins C dy gs)) (h : sp [.ref a, .ref b] H (OwnB true Q) E) : rOwnNe C sp E (.ref a) (.ref b) H Q := ⟨a, dx, fs, b, dy, gs, rfl, rfl, h1, h2, h⟩
end
end L3

/-! comprehensions whose items are new lists -/
namespace L3
open PySem L2 PyProof.Rows
section
variable {H : Hp} {Q : VK} {g : TG} {tt : TT} {te : TE} {vs : List Nat} {σ : L2.St}
theorem Fr.back {H H1 : Hp} {q : Addr} (s : Same H H1) (h : Fr H1 q) : Fr H q := ⟨s.free h.out⟩
theorem lcr1_rows {j : Int} (f : Nat → List V) (b1 : -(2 ^ 62) ≤ j) (hz : j ≤ 100000)
    (hs : ∀ i : Nat, (i : Int) < j → ∀ H1, Same H H1 → ∀ Z : Option V → Hp → Prop, (∀ q H2, Fr H1 q → Same H1 H2 → H2 q = some (.lst (f i)) → Z (some (.ref q)) H2) → LcT g tt te vs σ (.int i) H1 Z)
    (k : ∀ D (qs : List Addr) H', Fr H D → Same H H' → qs.length = j.toNat → qs.Nodup → D ∉ qs → (∀ q ∈ qs, Fr H q) → (∀ (i : Nat) q, qs[i]? = some q → H' q = some (.lst (f i))) → H' D = some (.lst (qs.map V.ref)) → Q (.ref D) H') : LcR1 g tt te vs σ [.int j] H Q := by
  refine ⟨j, rfl, b1, by omega, fun D hD => lc_range (fun i H' => i ≤ j.toNat ∧ Same H H' ∧ ∃ qs : List Addr, qs.length = i ∧ qs.Nodup ∧ D ∉ qs ∧ (∀ q ∈ qs, Fr H q) ∧ (∀ (k : Nat) q, qs[k]? = some q → H' q = some (.lst (f k))) ∧ H' D = some (.lst (qs.map V.ref)))
    ⟨Nat.zero_le _, same_upd hD, [], rfl, List.nodup_nil, List.not_mem_nil, fun q h => absurd h List.not_mem_nil, fun k q h => by simp at h, upd_same⟩ ?_ ?_⟩
  · rintro i H1 hlt ⟨hi, sH, qs, hl, hn, hDq, hf, hq, eD⟩
    rw [Int.zero_add]
    refine hs i (by omega) H1 sH (fun o H4 => match o with
      | some y => ∃ acc, H4 D = some (.lst acc) ∧ acc.length < sizeLine ∧ (i + 1 ≤ j.toNat ∧ Same H (upd H4 D (.lst (acc ++ [y]))) ∧ ∃ qs : List Addr, qs.length = i + 1 ∧ qs.Nodup ∧ D ∉ qs ∧ (∀ q ∈ qs, Fr H q) ∧ (∀ (k : Nat) q, qs[k]? = some q → (upd H4 D (.lst (acc ++ [y]))) q = some (.lst (f k))) ∧ (upd H4 D (.lst (acc ++ [y]))) D = some (.lst (qs.map V.ref)))
      | none => i + 1 ≤ j.toNat ∧ Same H H4 ∧ ∃ qs : List Addr, qs.length = i + 1 ∧ qs.Nodup ∧ D ∉ qs ∧ (∀ q ∈ qs, Fr H q) ∧ (∀ (k : Nat) q, qs[k]? = some q → H4 q = some (.lst (f k))) ∧ H4 D = some (.lst (qs.map V.ref))) fun q H2 fq s2 hq2 => ?_
    have qD : q ≠ D := ne_new fq eD
    have qn : q ∉ qs := fun m => by
      obtain ⟨n, hn2, e⟩ := List.getElem_of_mem m
      have e2 : qs[n]? = some q := by rw [List.getElem?_eq_getElem hn2, e]
      exact ne_new fq (hq n q e2) rfl
    refine ⟨qs.map V.ref, s2 _ _ eD, ?_, hlt, fun b o e => ?_, qs ++ [q], by rw [List.length_append, hl]; rfl, ?_, ?_, ?_, ?_, by rw [upd_same, List.map_append]; rfl⟩
    · rw [List.length_map, hl]
      exact Nat.lt_of_le_of_lt (by omega : _ ≤ 100000) (by decide)
    · rw [upd_ne (ne_of_none e hD)]
      exact s2 _ _ (sH _ _ e)
    · rw [List.nodup_append]
      exact ⟨hn, by simp, fun a ha b hb => by simp at hb; subst hb; intro e; subst e; exact qn ha⟩
    · intro m
      rcases List.mem_append.mp m with m | m
      · exact hDq m
      · simp at m; exact qD m.symm
    · intro q' m
      rcases List.mem_append.mp m with m | m
      · exact hf q' m
      · simp at m; subst m; exact fq.back sH
    · intro n q' e
      have ne : q' ≠ D := fun z => by
        subst z
        rcases List.mem_append.mp (List.mem_of_getElem? e) with m | m
        · exact hDq m
        · simp at m; exact qD m.symm
      rw [upd_ne ne]
      by_cases hlt2 : n < qs.length
      · rw [List.getElem?_append_left hlt2] at e
        exact s2 _ _ (hq n q' e)
      · rw [List.getElem?_append_right (by omega)] at e
        have hn0 : n - qs.length = 0 := by
          have := (List.getElem?_eq_some_iff.mp e).1
          simp at this
          omega
        rw [hn0] at e
        simp at e
        subst e
        have : n = i := by omega
        subst this
        exact hq2
  · rintro H1 ⟨_, sH, qs, hl, hn, hDq, hf, hq, eD⟩
    exact k D qs H1 ⟨hD⟩ sH hl hn hDq hf hq eD
end
/-! isinstance of an own instance, of its own class -/
section
variable {K : PySem.W.Frag} {H : Hp} {Q : VK} {a C dx : Addr} {fs : List (PySem.Str × V)}
structure IsiC (K : PySem.W.Frag) (C : Addr) : Prop where
  ca : PySem.W.findIn K (.ref C) "__class__" = some (some (.builtin "object.__class__"))
  cn : PySem.W.specialIn K (.builtin "object.__class__") "__get__" = some (some (.builtin "getset_descriptor.__get__"))
  ct : PySem.W.takesIn K (.builtin "object.__class__") = some true
  cm : PySem.W.mroIn K C (.type "object") = some true
theorem isi_own (h1 : H a = some (.ins C dx fs)) (c : Cls K C) (i : IsiC K C) (h : Q (.bl true) H) : rIsi K [.ref a, .ref C] H Q :=
  ⟨_, _, _, _, true, rfl, .own C, .base (.ins h1 c i.ca i.cn i.ct i.cm), by unfold PySem.W.kitOne; rw [if_pos (by exact beq_self_eq_true _)], h⟩
end
end L3

/-! methods of lists; heaps that are as they were but for some addresses -/
namespace L3
open PySem L2 PyProof.Rows
section
variable {K : PySem.W.Frag} {H : Hp} {Q : VK} {a : Addr} {xs ys : List V} {to : TE} {t : TA} {σ : L2.St} {x y : V} {r : V → List V → Hp → VK → Prop} {T : String}
def BmR (K : PySem.W.Frag) (T : String) (r : V → List V → Hp → VK → Prop) (t : TA) (σ : L2.St) (x : V) (H : Hp) (Q : VK) : Prop := tyV K T x H ∧ t σ H fun xs H2 => r x xs H2 Q
def Bm0R (K : PySem.W.Frag) (T : String) (r : V → List V → Hp → VK → Prop) (x : V) (H : Hp) (Q : VK) : Prop := tyV K T x H ∧ r x [] H Q
theorem g_bm (h : to σ H fun x H1 => BmR K T r t σ x H1 Q) : tBM K T r to t σ H Q := h
theorem g_bm0 (h : to σ H fun x H1 => Bm0R K T r x H1 Q) : tBM0 K T r to σ H Q := h
theorem bm_l (h1 : H a = some (.lst xs)) (h : t σ H fun ys H2 => r (.ref a) ys H2 Q) : BmR K "list" r t σ (.ref a) H Q := ⟨Or.inl ⟨rfl, _, SqL.of h1⟩, h⟩
theorem bm0_l (h1 : H a = some (.lst xs)) (h : r (.ref a) [] H Q) : Bm0R K "list" r (.ref a) H Q := ⟨Or.inl ⟨rfl, _, SqL.of h1⟩, h⟩
theorem ap_append (h1 : H a = some (.lst xs)) (hz : xs.length < 100000) (h : ∀ H', SB a H H' → H' a = some (.lst (xs ++ [y])) → Q .non H') : rAppend (.ref a) [y] H Q :=
  ⟨a, xs, y, rfl, rfl, h1, Nat.lt_of_lt_of_le hz (by decide), h _ sb_upd upd_same⟩
end
/-- all but what stands in l is as it was -/
def SBs (l : List Addr) (H H' : Hp) : Prop := ∀ a o, a ∉ l → H a = some o → H' a = some o
theorem SBs.same {l : List Addr} {H H1 H2 : Hp} (a : Same H H1) (h : ∀ q ∈ l, Fr H q) (b : SBs l H1 H2) : Same H H2 := fun c o q => b c o (fun m => by have := (h c m).out; rw [q] at this; cases this) (a c o q)
theorem SBs.sb {l : List Addr} {H H1 H2 : Hp} {p : Addr} (a : SBs l H H1) (hp : p ∈ l) (b : SB p H1 H2) : SBs l H H2 := fun c o n q => b c o (fun e => n (e ▸ hp)) (a c o n q)
theorem SBs.tr {l : List Addr} {H H1 H2 : Hp} (a : SBs l H H1) (b : Same H1 H2) : SBs l H H2 := fun c o n q => b c o (a c o n q)
end L3

set_option Elab.async false
set_option linter.all false
set_option maxRecDepth 100000
set_option maxHeartbeats 2000000
/-! several clauses «except C as e»; isinstance and fields of an own error that has a dict; calls that may let an error out, inside a try -/
namespace L3
open PySem PySem.Spec L2 PyProof.Rows
def endA (i : Nat) (D : Ends) : Ends := { nx := fun σ' H' => D.nx (σ'.set i none) H', rt := D.rt, bk := fun σ' H' => D.bk (σ'.set i none) H', ct := fun σ' H' => D.ct (σ'.set i none) H' }
def wManyA (K : PySem.W.Frag) (Wout : WX) (i : Nat) (D : Ends) : List (Value × (Addr → Value → Option Addr → TS)) → WX
  | [] => Wout
  | (c, ts) :: r => fun cls d σ H => ∃ b, PySem.W.exmOne K cls c = some b ∧ (b = true → ∀ a, H a = none → ts a cls d (endA i D) (σ.set i (some (.ref a))) H) ∧ (b = false → wManyA K Wout i D r cls d σ H)
inductive HdsA (X : Cx) (n : Str) : List ExceptHandler → List (Value × (Addr → Value → Option Addr → TS)) → Prop
  | nil : HdsA X n [] []
  | cons {x : Str} {c : Value} {ts : Addr → Value → Option Addr → TS} {b₀ : Stmt} {suite : List Stmt} {np pos' : Pos} {hds : List ExceptHandler} {l : List (Value × (Addr → Value → Option Addr → TS))} (hc : Names X x c)
      (hsu : ∀ (a : Addr) (oe : Obj) (cls : Value) (d : Option Addr) (pn : List (Addr × Obj)), Zc cls d oe → (∃ vs, oe.data = .fields vs) → PSs (X.suite a ((a, oe) :: pn)) (b₀ :: suite) (ts a cls d)) (r : HdsA X n hds l) :
      HdsA X n (.ExceptHandler (some (.Name x np)) (some n) (b₀ :: suite) pos' :: hds) ((c, ts) :: l)
def tTryA (K : PySem.W.Frag) (Wout : WX) (i : Nat) (l : List (Value × (Addr → Value → Option Addr → TS))) (tb : WX → TS) : TS := fun D σ H => tb (wManyA K Wout i D l) D σ H
section
variable {X : Cx} {n : Str} {i : Nat} {body : List Stmt} {h₀ : ExceptHandler} {hds : List ExceptHandler} {l : List (Value × (Addr → Value → Option Addr → TS))} {pos : Pos} {tb : WX → TS} {Wout : WX}
theorem ps_tryA (hs : X.stack = X.env :: X.outer) (hf : X.env.frame = some X.env.locals) (hN : X.N.Nodup) (hi : X.N[i]? = some n) (hln : X.env.kindOf n = some .local) (tk : Takes X Wout)
    (hb : ∀ (W : WX) (pn : List (Addr × Obj)) (xe : Value → Shared → Prop), Takes (X.tr pn xe) W → PassesOwn (model X.prog X.w) X.A X.env xe → PSs (X.tr pn xe) body (tb W))
    (hh : HdsA X n (h₀ :: hds) l) : PS X (.Try body (h₀ :: hds) [] [] pos) (tTryA X.K Wout i l tb) := by
  refine ⟨fun pins s σ H D I h => ?_⟩
  have ok := I.ok
  have hfr : X.A.frames = some (X.env :: X.outer) := by rw [ok.frames, hs]
  have hloc : Loc X.env.scope n := .inl hln
  refine wpAny_Try_except ?_
  refine wpAny_mono ((hb (wManyA X.K Wout i D l) (X.pn ++ pins) (fun e s₁ => wpAny (model X.prog X.w) X.A (noteFrame e X.env) (fun _ s₂ => wpAny (model X.prog X.w) X.A (setFlight e none) (fun _ s₃ =>
    wpAny (model X.prog X.w) X.A (handleBy e X.env (h₀ :: hds)) (SP X pins D) X.xe s₃) X.xe s₂) X.xe s₁) (fun u s' xx => ?_) PassesOwn.looking).run [] s σ H D (I.toTry _) h) (fun f s1 hsp => ?_) (fun e s1 he => he)
  · obtain ⟨a, B, sI, pins', σ', H', cls, d, rfl, J', nb, up, sky, na, os, ag, w⟩ := xx
    have J : Inv X pins σ' H' sI := J'.ofTry ok
    have sky' : Sky B (X.env :: X.outer) a (Zc cls d) X.env.locals s'.heap := by rw [← hs]; exact sky
    show wpAny (model X.prog X.w) X.A (noteFrame (.ref a) X.env) _ _ _
    refine Sky.land Zc.steady hfr hf sky' fun h3 fl3 up3 => ?_
    have J3 : Inv X pins σ' H' { s' with heap := h3 } := J.landed nb fl3.1 (up.trans up3) os ag
    obtain ⟨oe3, vs3, he3, hz3, hd3⟩ := fl3.there
    have notFr : ∀ {h : Heap} {o : Obj} {vs : Array Value}, h.FunFrames B (X.env :: X.outer) → h.get? a = some o → o.data = .fields vs → a ∉ frs (X.env :: X.outer) := fun {h o vs} ff e dd hm => by
      obtain ⟨_, o', e', hnf⟩ := ff.mem hm
      rw [e] at e'; cases e'
      exact hnf _ dd
    have nfr := notFr fl3.2.2.1 he3 hd3
    have nL : a ≠ X.env.locals := fun z => nfr (List.mem_filterMap.mpr ⟨X.env, List.mem_cons_self, by rw [hf, z]⟩)
    have nF : a ∉ X.fs := fun hm => by
      obtain ⟨e, he, q⟩ := List.mem_filterMap.mp hm
      exact nfr (List.mem_filterMap.mpr ⟨e, List.mem_cons_of_mem _ he, q⟩)
    have S3 := J3.suite he3 hd3 na nL nF
    have go : ∀ {hds' : List ExceptHandler} {l' : List (Value × (Addr → Value → Option Addr → TS))}, HdsA X n hds' l' → wManyA X.K Wout i D l' cls d σ' H' →
        wpAny (model X.prog X.w) X.A (handleBy (.ref a) X.env hds') (SP X pins D) X.xe { s' with heap := h3 } := by
      intro hds' l' hk
      induction hk with
      | nil =>
        intro w
        refine wpAny_handleBy_nil ?_
        obtain ⟨k1, k2, k3, oe, vs, T, oT, ts', he, hz, hd, h1, hr⟩ := id fl3
        unfold PySem.passOn
        refine wpAny_bind (wpAny_field he hd h1 ?_)
        rw [if_neg (show ¬ ((Value.ref T == Value.none) = true) from by simp)]
        have fin : wpAny (model X.prog X.w) X.A (setFlight (.ref a) X.env.frame) (fun _ s4 => wpAny (model X.prog X.w) X.A (throw (.ref a) : Sem Flow) (SP X pins D) X.xe s4) X.xe { s' with heap := h3 } := by
          rw [hf]
          refine HandSPX.setFlight_upZ fl3 fun h4 hh4 up4 => wpAny_throw (tk _ _ ?_)
          exact ⟨a, B, sI, pins, σ', H', cls, d, rfl, J, nb, (up.trans up3).trans up4, .inr (.inr (by rw [hs]; exact hh4)), na, os, ag, w⟩
        first
          | exact wpAny_bind (wpAny_pure (wpAny_bind fin))
          | exact wpAny_bind fin
      | @cons x c ts b₀ suite np pos' hds2 l2 hc hsu r ih =>
        intro w
        obtain ⟨b, hb1, hyes, hno⟩ := w
        refine wpAny_handleBy_cons (codeAny_handlers_test ?_) (by intro q; cases q)
        have LT : PySem.W.Looks (model X.prog X.w) h3 (typeOf (.ref a)) cls := fun A Q E s k q => wpAny_typeOf_ref (k _ _ he3) (by rw [hz3.1]; exact q)
        have LM := PySem.W.exm_one (M := model X.prog X.w) (J3.kIn) LT hb1
        have test : ∀ {Q : Value → Shared → Prop} {E : Value → Shared → Prop}, Q c { s' with heap := h3 } → wpAny (model X.prog X.w) (X.A.mark (some (.ref a))) (eval (.Name x np) X.env) Q E { s' with heap := h3 } := fun {Q E} q => by
          obtain ⟨hg, hdbg, hm | ⟨hm, hv, hnn⟩⟩ := hc
          · exact ld_glob (X := X.suite a ((a, oe3) :: (X.pn ++ pins))) S3 hg hm q hdbg
          · exact ld_blt (X := X.suite a ((a, oe3) :: (X.pn ++ pins))) S3 hg hm hv q hnn hdbg
        refine test (LM.here ?_)
        cases b with
        | true =>
          refine codeAny_handlers_suite_as ?_
          refine HandSPX.lands_againZ fl3 fun h4 fl4 up4 => ?_
          have J4 : Inv X pins σ' H' { s' with heap := h4 } := J.landed nb fl4.1 ((up.trans up3).trans up4) os ag
          obtain ⟨oe4, vs4, he4, hz4, hd4⟩ := fl4.there
          have S4 := J4.suite he4 hd4 na nL nF
          refine store_ok (X := X.suite a ((a, oe4) :: (X.pn ++ pins))) (v := .ref a) S4 hN hi hloc rfl (fun s5 S5 => ?_) (.inr hln)
          refine wpAny_mono ((hsu a oe4 cls d (X.pn ++ pins) hz4 ⟨_, hd4⟩).run [] s5 _ H' _ S5 (hyes rfl a na)) (fun f s6 hsp => ?_) (fun _ _ z => False.elim z)
          have end_ : ∀ {σ6 : L2.St} {H6 : Hp} {Q : Shared → Prop}, Inv (X.suite a ((a, oe4) :: (X.pn ++ pins))) [] σ6 H6 s6 → (∀ s7, Inv X pins (σ6.set i none) H6 s7 → Q s7) →
              wpAny (model X.prog X.w) X.A (do bindName X.env n .none; unbindBehindTheSuite X.env n pos') (fun _ s7 => Q s7) X.xe s6 := fun {σ6 H6 Q} S6 hq => gone_ok (S6.unsuite ok) hN hi hln hq
          cases f with
          | next =>
            obtain ⟨σ6, H6, S6, q6⟩ := hsp
            exact end_ S6 fun s7 J7 => ⟨_, _, J7, q6⟩
          | brk =>
            obtain ⟨σ6, H6, S6, q6⟩ := hsp
            exact end_ S6 fun s7 J7 => ⟨_, _, J7, q6⟩
          | cont =>
            obtain ⟨σ6, H6, S6, q6⟩ := hsp
            exact end_ S6 fun s7 J7 => ⟨_, _, J7, q6⟩
          | ret u =>
            obtain ⟨v6, σ6, H6, S6, r6, q6⟩ := hsp
            exact end_ S6 fun s7 J7 => ⟨_, _, _, J7, r6, q6⟩
        | false =>
          show wpAny _ X.A (handleBy (.ref a) X.env hds2) _ _ _
          exact ih (hno rfl)
    exact go hh w
  · cases f with
    | next =>
      obtain ⟨σ', H', J', q⟩ := hsp
      exact wpAny_execs_nil ⟨σ', H', J'.ofTry ok, q⟩
    | brk =>
      obtain ⟨σ', H', J', q⟩ := hsp
      exact ⟨σ', H', J'.ofTry ok, q⟩
    | cont =>
      obtain ⟨σ', H', J', q⟩ := hsp
      exact ⟨σ', H', J'.ofTry ok, q⟩
    | ret u =>
      obtain ⟨v, σ', H', J', r, q⟩ := hsp
      exact ⟨v, σ', H', J'.ofTry ok, r, q⟩
end

/-! ### an own error in hand -/
/-- what a class of own errors with one field f must have -/
structure Erc (K : PySem.W.Frag) (C : Addr) : Prop where
  o : OexC K C
  x : XfC K C
  i : ExcC K C
/-- isinstance(e, c), e the caught error (its class cls, its dict d) -/
def rIsD (K : PySem.W.Frag) (a : Addr) (cls : Value) (d : Option Addr) : List V → Hp → VK → Prop := fun xs H Q => ∃ (D dd : Addr) (fs : List (Str × V)) (c : V) (cv : Value) (b : Bool), cls = .ref D ∧ d = some dd ∧ H dd = some (.xd fs) ∧ Erc K D ∧
  xs = [.ref a, c] ∧ (∀ u, RelV c u → u = cv) ∧ PySem.W.kitOne K (.ref D) cv = some b ∧ Q (.bl b) H
theorem call_isD {X : Cx} {K : PySem.W.Frag} {a : Addr} {oe : Obj} {cls : Value} {d : Option Addr} {pn : List (Addr × Obj)} (hK : X.K = K) (hz : Zc cls d oe) (hf : ∃ vs, oe.data = .fields vs) : CallR (X.suite a ((a, oe) :: pn)) (.builtin "isinstance") (rIsD K a cls d) := by
  subst hK
  intro pins s σ H xs us Q I r h
  obtain ⟨D, dd, fs, c, cv, b, ecls, ed, edd, T, rfl, hcv, e, q⟩ := h
  cases r with
  | cons rx rr =>
    cases rr with
    | cons rt rr =>
      cases rr
      cases rx
      have ec := hcv _ rt
      subst ec
      subst ecls
      subst ed
      obtain ⟨hget, _⟩ := I.pin (a, oe) (List.mem_append.mpr (.inl List.mem_cons_self))
      obtain ⟨vs, hv⟩ := hf
      have hx : ObjOk X.prog X.w H s.heap dd (.xd fs) := I.hok dd _ edd
      obtain ⟨mA, hns, hr⟩ := hx
      obtain ⟨od, ho, hl⟩ := lookIn_ns hns
      have J : PySem.W.InstAt s.heap a oe D (some od) := ⟨hget, hz.1, by unfold PySem.W.notCls; rw [hv] <;> rfl, by rw [hz.2]; exact ho⟩
      have C := T.i
      have hcl : (PySem.W.clsIn X.K D).isSome = true := by
        obtain ⟨cdD, hcD, _⟩ := PySem.W.any_some C.hd
        rw [hcD]; rfl
      exact PySem.W.kia_one (PySem.W.kitx_exc hcl C.hg C.hk C.hs C.ha C.hn C.ht C.hm) I.kIn J e (fun z => nomatch z) fun tk => ⟨.bl b, H, I.kept (t' := tk) fun _ _ z => z, rfl, q⟩
/-- e.f, e the caught error -/
def tXd (K : PySem.W.Frag) (a : Addr) (cls : Value) (d : Option Addr) (f : Str) (te : TE) : TE := fun σ H Q => te σ H fun x H1 => ∃ (C dd : Addr) (fs : List (Str × V)) (v : V), x = .ref a ∧ cls = .ref C ∧ Erc K C ∧ PySem.W.findIn K (.ref C) f = some none ∧
  d = some dd ∧ H1 dd = some (.xd fs) ∧ fs.lookup f = some v ∧ Q v H1
theorem pe_xd {X : Cx} {K : PySem.W.Frag} {a : Addr} {oe : Obj} {cls : Value} {d : Option Addr} {pn : List (Addr × Obj)} {e : Expr} {te : TE} {pos : Pos} {n : Str} (hK : X.K = K)
    (hz : Zc cls d oe) (hf : ∃ vs, oe.data = .fields vs) (he : PE (X.suite a ((a, oe) :: pn)) e te) (hb : attributeBase e n X.env (eval e X.env) = eval e X.env := by rfl) :
    PE (X.suite a ((a, oe) :: pn)) (.Attribute e n pos) (tXd K a cls d n te) := by
  subst hK
  refine ⟨fun pins s σ H Q I h => ?_⟩
  refine attr_of hb (thn (he.run pins s σ H _ I h) fun u s1 hh => ?_)
  obtain ⟨x, H1, I1, rx, C, dd, fs, v, ex, ec, T, hno, ed, ea, l, q⟩ := hh
  subst ex
  obtain rfl : u = Value.ref a := rx
  subst ec
  subst ed
  obtain ⟨ha, _⟩ := I1.pin (a, oe) (List.mem_append_left _ List.mem_cons_self)
  obtain ⟨vs, hd⟩ := hf
  have hx : ObjOk X.prog X.w H1 s1.heap dd (.xd fs) := I1.hok dd _ ea
  obtain ⟨mA, hns, hr⟩ := hx
  obtain ⟨od, ho, hl⟩ := lookIn_ns hns
  obtain ⟨u, hu, ru⟩ := RelO.some_of (v := v) (o := mA n) (by rw [← l]; exact hr n)
  have J : PySem.W.InstAt s1.heap a oe C (some od) := ⟨ha, hz.1, by unfold PySem.W.notCls; rw [hd] <;> rfl, by rw [hz.2]; exact ho⟩
  exact HandSPX.exc_get I1.kIn J T.x.ga T.x.gg T.x.exC (PySem.W.findObj_own T.x.hdC hno rfl (by rw [hl, hu])) (handed_of ru) ⟨v, H1, I1.tok _, ru, q⟩

/-! ### calls that may let an error out, at the slots σ -/
section
variable {X : Cx} {CX : CXT} {k m' : Nat} {f C : Addr} {fd : FuncData} {ps ks : List Str} {sp : Sp} {E : L2.St → XK} {x m : Str} {p pos apos : Pos} {e o : Expr} {es : List Expr} {kws : List Keyword} {ta : TE} {t tk : TA}
def tMethS (C : Addr) (m : Str) (sp : Sp) (E : L2.St → XK) (te : TE) (t : TA) : TE := fun σ H Q => tMeth C m sp [] (E σ) te t σ H Q
theorem pe_methT {pl : Sem Bool} (he : PE X o ta) (c : Cls X.K C) (hm : Meth X.K C m f) (F : FnOk X.prog X.w X.K X.mg X.base CX k f fd ps sp) (hr : Room k X.A) (hb : Binds X.K fd ps []) (hx : ∀ σ, PassesAt CX X σ (E σ)) (ha : PA X (e :: es) t)
    (hst : starEach (e :: es) X.env = (false, eval e X.env) :: starEach es X.env := by rfl) (hpl : (backTo pos (starEach es X.env)).any (·.1) = false := by rfl)
    (ht : eval (.Call (.Attribute o m apos) (e :: es) [] pos) X.env = (do
      let ov ← eval o X.env
      standAt apos.atName
      let (f, first) ← holding [ov] (getMethod ov m pl)
      callWith pos f first (backTo pos (starEach (e :: es) X.env)) (backToKw pos (keywordEach [] X.env))) := by rfl) :
    PE X (.Call (.Attribute o m apos) (e :: es) [] pos) (tMethS C m sp E ta t) := by
  refine ⟨fun pins s σ H Q I h => ?_⟩
  refine PySem.W.methodCall_KW (pl := pl) (thn (he.run pins s σ H _ I h) fun u s1 ⟨x, H1, I1, rx, a, dx, fs, ex, ea, l, q⟩ => ?_) ht
  subst ex
  obtain rfl : u = Value.ref a := rx
  refine getmeth_ok I1 ea c hm l ?_
  refine PySem.W.callWith_K (first := [.ref a]) (h₀ := X.base) I.ok.mod.kin hm.kp (thn (ha.run pos pins s1 σ H1 _ I1 q) fun us s2 ⟨vs, H2, I2, r, q2⟩ => ⟨I2.kIn, ?_⟩) hst hpl
  have q3 : sp (V.ref a :: (vs ++ [])) H2 Q (E σ) := q2
  rw [List.append_nil] at q3
  exact run_fnS (us := .ref a :: us) (vs := .ref a :: vs) F hr hb (hx σ) I2 (.cons rfl r) q3
theorem run_fnNS {n : Nat} {g : List Value → List Value → List Value} {gV : List V → List V → List V} {pins : List (Addr × Obj)} {σ : L2.St} {H : Hp} {s : Shared} {Q : VK} {us ws : List Value} {vs zs : List V} (F : FnOk X.prog X.w X.K X.mg X.base CX k f fd ps sp) (hr : Room k X.A) (hb : KBn X.K fd ps n ks g gV) (hx : PassesAt CX X σ (E σ))
    (I : Inv X pins σ H s) (r : Vals vs us) (rz : Vals zs ws) (l1 : vs.length = n) (l2 : zs.length = ks.length) (h : sp (gV vs zs) H Q (E σ)) : wpAny (model X.prog X.w) X.A (call (.ref f) us (ks.zip ws)) (EP X pins σ Q) X.xe s := by
  have r2 := hb.rel r rz
  refine wpAny_call (codeAny_mono (F.run X.A X.stack s H ⟨us, ks.zip ws⟩ (g us ws) (gV vs zs) Q (E σ) hr I.env0 (hb.to s us ws I.kIn (r.length.symm.trans l1) (rz.length.symm.trans l2)) r2 h) fun r s' hq => ?_)
  cases r with
  | error e => exact hx pins H s e s' I hq
  | ok fl =>
    cases fl with
    | ret u => exact I.after hq
    | next => exact False.elim hq
    | brk => exact False.elim hq
    | cont => exact False.elim hq
def tMethKS (C : Addr) (m : Str) (n j : Nat) (sp : Sp) (gV : List V → List V → List V) (E : L2.St → XK) (te : TE) (t tk : TA) : TE := fun σ H Q => tMethK C m n j sp gV (E σ) te t tk σ H Q
theorem pe_methTK0 {n : Nat} {g : List Value → List Value → List Value} {gV : List V → List V → List V} {pl : Sem Bool} (he : PE X o ta) (c : Cls X.K C) (hm : Meth X.K C m f) (F : FnOk X.prog X.w X.K X.mg X.base CX k f fd ps sp) (hr : Room k X.A) (hb : KBn X.K fd ps n ks g gV) (hx : ∀ σ, PassesAt CX X σ (E σ)) (hkw : PK X kws tk)
    (hall : (backToKw pos (keywordEach kws X.env)).all (·.1.isSome) = true := by rfl) (hks : (backToKw pos (keywordEach kws X.env)).filterMap (·.1) = ks := by rfl)
    (hpl : ((backTo pos (starEach [] X.env)).any (·.1) || (backToKw pos (keywordEach kws X.env)).any (·.1.isNone)) = false := by rfl)
    (ht : eval (.Call (.Attribute o m apos) [] kws pos) X.env = (do
      let ov ← eval o X.env
      standAt apos.atName
      let (f, first) ← holding [ov] (getMethod ov m pl)
      callWith pos f first (backTo pos (starEach [] X.env)) (backToKw pos (keywordEach kws X.env))) := by rfl) :
    PE X (.Call (.Attribute o m apos) [] kws pos) (tMethKS C m n ks.length sp gV E ta tNil tk) := by
  refine ⟨fun pins s σ H Q I h => ?_⟩
  refine PySem.W.methodCall_KW (pl := pl) (thn (he.run pins s σ H _ I h) fun u s1 ⟨x, H1, I1, rx, a, dx, fs, ex, ea, l, q⟩ => ?_) ht
  subst ex
  obtain rfl : u = Value.ref a := rx
  refine getmeth_ok I1 ea c hm l ?_
  refine PySem.W.callWith_KW0 (first := [.ref a]) (h₀ := X.base) I.ok.mod.kin hm.kp hall ?_ hpl
  refine thn (hkw.run pos pins s1 σ H1 _ I1 q) fun ws s3 ⟨zs, H3, I3, rz, l1, l2, q3⟩ => ⟨I3.kIn, ?_⟩
  rw [hks]
  exact run_fnNS (us := [.ref a]) (vs := [.ref a]) F hr hb (hx σ) I3 (.cons rfl .nil) rz l1 l2 q3
end

theorem pss_eq {X : Cx} {b : List Stmt} {t t' : TS} (h : PSs X b t) (e : t = t') : PSs X b t' := e ▸ h
/-! readings -/
section
variable {K : PySem.W.Frag} {C a dx : Addr} {σ : L2.St} {H : Hp} {Q : VK} {nx bk ct : L2.St → Hp → Prop} {rt : VK} {te to : TE} {t tk : TA} {sp : Sp} {E : L2.St → XK} {W Wout : WX} {fs : List (Str × V)} {f m : Str} {n j i : Nat} {gV : List V → List V → List V} {cls c : Value} {d : Option Addr} {v : V} {tb : WX → TS}
  {ts : Addr → Value → Option Addr → TS} {l : List (Value × (Addr → Value → Option Addr → TS))}
theorem g_try (h : tb (wManyA K Wout i ⟨nx, rt, bk, ct⟩ l) ⟨nx, rt, bk, ct⟩ σ H) : tTryA K Wout i l tb ⟨nx, rt, bk, ct⟩ σ H := h
theorem g_methS (h : tMeth C m sp [] (E σ) te t σ H Q) : tMethS C m sp E te t σ H Q := h
theorem g_methKS (h : tMethK C m n j sp gV (E σ) te t tk σ H Q) : tMethKS C m n j sp gV E te t tk σ H Q := h
theorem g_callS (h : t σ H fun vs H1 => sp vs H1 Q (E σ)) : tCallS sp E t σ H Q := h
theorem we_at (h : W cls d σ H) : WE W σ cls d H := h
theorem wm_yes (e : PySem.W.exmOne K cls c = some true) (h : ∀ a, H a = none → ts a cls d ⟨fun σ' H' => nx (σ'.set i none) H', rt, fun σ' H' => bk (σ'.set i none) H', fun σ' H' => ct (σ'.set i none) H'⟩ (σ.set i (some (.ref a))) H) : wManyA K Wout i ⟨nx, rt, bk, ct⟩ ((c, ts) :: l) cls d σ H :=
  ⟨true, e, fun _ => h, fun z => Bool.noConfusion z⟩
theorem wm_no {D : Ends} (e : PySem.W.exmOne K cls c = some false) (h : wManyA K Wout i D l cls d σ H) : wManyA K Wout i D ((c, ts) :: l) cls d σ H := ⟨false, e, fun z => Bool.noConfusion z, fun _ => h⟩
def XdR (K : PySem.W.Frag) (a : Addr) (cls : Value) (d : Option Addr) (f : Str) (x : V) (H : Hp) (Q : VK) : Prop := ∃ (C dd : Addr) (fs : List (Str × V)) (v : V), x = .ref a ∧ cls = .ref C ∧ Erc K C ∧ PySem.W.findIn K (.ref C) f = some none ∧ d = some dd ∧ H dd = some (.xd fs) ∧ fs.lookup f = some v ∧ Q v H
theorem g_xd (h : te σ H fun x H1 => XdR K a cls d f x H1 Q) : tXd K a cls d f te σ H Q := h
theorem xd_at {dd : Addr} (hd : H dd = some (.xd fs)) (T : Erc K C) (hn : PySem.W.findIn K (.ref C) f = some none) (hl : fs.lookup f = some v) (h : Q v H) : XdR K a (.ref C) (some dd) f (.ref a) H Q := ⟨C, dd, fs, v, rfl, rfl, T, hn, rfl, hd, hl, h⟩
theorem is_ty {dd : Addr} {T : String} {b : Bool} (hd : H dd = some (.xd fs)) (e : Erc K C) (k : PySem.W.kitOne K (.ref C) (.type T) = some b) (h : Q (.bl b) H) : rIsD K a (.ref C) (some dd) [.ref a, .ty T] H Q :=
  ⟨C, dd, fs, _, _, b, rfl, rfl, hd, e, rfl, fun u r => r, k, h⟩
theorem is_ref {dd B : Addr} {b : Bool} (hd : H dd = some (.xd fs)) (e : Erc K C) (k : PySem.W.kitOne K (.ref C) (.ref B) = some b) (h : Q (.bl b) H) : rIsD K a (.ref C) (some dd) [.ref a, .ref B] H Q :=
  ⟨C, dd, fs, _, _, b, rfl, rfl, hd, e, rfl, fun u r => r, k, h⟩
/-- a made error -/
def MkOR (C : Addr) (sp : Sp) (vs : List V) (H1 : Hp) (Q : XK) : Prop := vs.length ≤ 1000 ∧ ∀ a, H1 a = none → sp (.ref a :: vs) (upd H1 a (exo a C none)) (fun v H2 => v = .non ∧ ∃ (d : Addr) (fs : List (Str × V)), H2 a = some (exo a C (some d)) ∧ H2 d = some (exd d fs) ∧ H1 d = none ∧ Q (.ref C) (some d) (upd (del H2 a) d (.xd fs))) (fun _ _ _ => False)
def spErr (K : PySem.W.Frag) (f : Str) : Sp := fun vs H Q _ => ∃ (a C : Addr) (v : V), vs = [.ref a, v] ∧ H a = some (exo a C none) ∧ OexC K C ∧ PySem.W.findIn K (.ref C) f = some none ∧ ∀ dx, H dx = none → dx ≠ a → Q .non (upd (upd H dx (exd dx [(f, v)])) a (exo a C (some dx)))
theorem err_at (T : Erc K C) (hn : PySem.W.findIn K (.ref C) f = some none) {Q : XK} (h : ∀ d H', Fr H d → Same H H' → H' d = some (.xd [(f, v)]) → Q (.ref C) (some d) H') : MkOR C (spErr K f) [v] H Q := by
  refine ⟨by simp, fun a ha => ⟨a, C, v, rfl, upd_same, T.o, hn, fun dx hdx hne => ⟨rfl, dx, _, upd_same, (upd_ne hne).trans upd_same, ?_, ?_⟩⟩⟩
  · rwa [upd_ne hne] at hdx
  · rw [upd_ne hne] at hdx
    refine h dx _ ⟨hdx⟩ (fun b o e => ?_) upd_same
    have n1 : b ≠ dx := ne_of_none e hdx
    have n2 : b ≠ a := ne_of_none e ha
    rw [upd_ne n1, del_ne n2, upd_ne n2, upd_ne n1, upd_ne n2]
    exact e
theorem err_len (h : spErr K f vs H Q E0) : vs.length = 2 := by
  obtain ⟨a, C, v, rfl, _⟩ := h
  rfl
theorem g_raise {Q : XK} (h : t σ H fun vs H1 => MkOR C sp vs H1 Q) : tMkO C sp [] t σ H Q := by
  have e : (fun (vs : List V) (H1 : Hp) => MkOR C sp vs H1 Q) = fun vs H1 => vs.length ≤ 1000 ∧ ∀ a, H1 a = none → sp (.ref a :: (vs ++ [])) (upd H1 a (exo a C none)) (fun v H2 => v = .non ∧ ∃ (d : Addr) (fs : List (Str × V)), H2 a = some (exo a C (some d)) ∧ H2 d = some (exd d fs) ∧ H1 d = none ∧ Q (.ref C) (some d) (upd (del H2 a) d (.xd fs))) (fun _ _ _ => False) := by
    funext vs H1; simp only [List.append_nil]; rfl
  rw [e] at h
  exact h
end
/-! tuples, comprehended; data that differ -/
section
variable {K : PySem.W.Frag} {a : Addr} {σ : L2.St} {H : Hp} {Q : VK} {xs : List V} {tl te : TE} {g : TG} {tt : TT} {vs : List Nat} {x y : V}
def LcU (K : PySem.W.Frag) (g : TG) (tt : TT) (te : TE) (vs : List Nat) (σ : L2.St) (x : V) (H1 : Hp) (Q : VK) : Prop := ∃ a, x = .ref a ∧ (∃ xs, SqT K H1 a xs) ∧ ∀ D, H1 D = none → ∃ W : Nat → Nat → Hp → Prop, (∃ m, W 0 m (upd H1 D (.lst []))) ∧ ∀ i m H, W i m H →
  ((Itt K a).stop i H ∧ Q (.ref D) H) ∨ ((Itt K a).go i H ∧ ∃ Nx : Hp → Prop, (∀ H', Nx H' → ∃ m', m' < m ∧ W (i + 1) m' H') ∧ ∀ x H', (Itt K a).yld i H x H' → g x (wipe σ vs) H' fun σ2 H2 => wipe σ2 vs = wipe σ vs ∧ tt σ2 H2 fun b H3 =>
    if b = true then te σ2 H3 fun y H4 => ∃ acc, H4 D = some (.lst acc) ∧ acc.length < sizeLine ∧ Nx (upd H4 D (.lst (acc ++ [y]))) else Nx H3)
theorem g_lcu (h : tl σ H fun x H1 => LcU K g tt te vs σ x H1 Q) : tLc (iTup K tl) g tt te vs σ H Q := h
theorem lcu_fun (f : V → Option V) (h1 : H a = some (.tup xs)) (hz : xs.length ≤ 100000)
    (hs : ∀ x ∈ xs, ∀ H1, Same H H1 → ∀ R : Option V → Hp → Prop, (∀ H2, Same H1 H2 → R (f x) H2) → LcT g tt te vs σ x H1 R)
    (k : ∀ D H', Fr H D → Same H H' → H' D = some (.lst (xs.filterMap f)) → Q (.ref D) H') : LcU K g tt te vs σ (.ref a) H Q := by
  refine ⟨a, rfl, ⟨xs, SqT.of h1⟩, fun D hD => lc_tup (xs := xs) (fun i H' => i ≤ xs.length ∧ Same H H' ∧ H' D = some (.lst ((xs.take i).filterMap f))) ⟨Nat.zero_le _, same_upd hD, upd_same⟩ (fun i H' _ q => SqT.of (q.2.1 _ _ h1)) ?_ ?_⟩
  · rintro i x H1 hx ⟨hi, sH, eD⟩
    have hlt : i < xs.length := (List.getElem?_eq_some_iff.mp hx).1
    refine hs x (List.mem_of_getElem? hx) H1 sH (fun o H4 => match o with
      | some y => ∃ acc, H4 D = some (.lst acc) ∧ acc.length < sizeLine ∧ (i + 1 ≤ xs.length ∧ Same H (upd H4 D (.lst (acc ++ [y]))) ∧ (upd H4 D (.lst (acc ++ [y]))) D = some (.lst ((xs.take (i + 1)).filterMap f)))
      | none => i + 1 ≤ xs.length ∧ Same H H4 ∧ H4 D = some (.lst ((xs.take (i + 1)).filterMap f))) fun H2 s2 => ?_
    have tk := take_fm (f := f) hx
    cases e : f x with
    | none =>
      rw [e] at tk
      exact ⟨hlt, sH.trans s2, by rw [tk, List.append_nil]; exact s2 _ _ eD⟩
    | some y =>
      rw [e] at tk
      refine ⟨_, s2 _ _ eD, ?_, hlt, fun b o q => ?_, by rw [upd_same, tk]⟩
      · have l1 := fm_len (f := f) (xs.take i)
        rw [List.length_take] at l1
        exact Nat.lt_of_le_of_lt (by omega : _ ≤ 100000) (by decide)
      · rw [upd_ne (ne_of_none q hD)]
        exact s2 _ _ (sH _ _ q)
  · rintro H1 ⟨_, sH, eD⟩
    rw [List.take_length] at eD
    exact k D H1 ⟨hD⟩ sH eD
theorem o_ned {d : PyData} (h1 : Dp K H x d) (h2 : Dp K H y d) (hs : SeqAt.shaped d = true) (h : Q (.bl false) H) : rNeD K x y H Q :=
  ⟨d, d, h1, h2, hs, hs, by rw [SeqAt.eqv_refl d (SeqAt.canLay_of_shaped hs)]; exact h⟩
end
/-! isinstance and clauses, by what the top tells -/
section
variable {K : PySem.W.Frag} {A B : Addr}
theorem kit_no (hd : PySem.W.hasDictIn K B = true) (ht : PySem.W.typeIn K (.ref B) = some (.type "type")) (hs : PySem.W.subIn K (.ref A) (.ref B) = some false) (hr : PySem.W.subIn K (.ref A) (.ref A) = some true) : PySem.W.kitOne K (.ref A) (.ref B) = some false := by
  obtain ⟨cd, hc, _⟩ := PySem.W.any_some hd
  have ne : ¬ ((Value.ref A == Value.ref B) = true) := fun z => by
    have e : A = B := Value.ref.inj (beq_iff_eq.mp z)
    subst e
    rw [hr] at hs
    cases hs
  have e2 : ((PySem.W.clsIn K B).isSome && PySem.W.typeIn K (.ref B) == some (.type "type")) = true := by rw [hc, ht] <;> rfl
  unfold PySem.W.kitOne
  rw [if_neg ne]
  show (if ((PySem.W.clsIn K B).isSome && PySem.W.typeIn K (.ref B) == some (.type "type")) = true then PySem.W.subIn K (.ref A) (.ref B) else none) = some false
  rw [if_pos e2]
  exact hs
theorem kit_ve (hs : PySem.W.subIn K (.ref A) (.type "ValueError") = some true) : PySem.W.kitOne K (.ref A) (.type "ValueError") = some true := by
  have ne : ¬ ((Value.ref A == Value.type "ValueError") = true) := fun z => by
    have e := beq_iff_eq.mp z
    cases e
  unfold PySem.W.kitOne
  rw [if_neg ne]
  show (if PySem.W.kitMeta "ValueError" = true then PySem.W.subIn K (.ref A) (.type "ValueError") else none) = some true
  rw [if_pos (by decide +kernel)]
  exact hs
end
end L3

set_option Elab.async false
set_option linter.all false
set_option maxRecDepth 100000
set_option maxHeartbeats 2000000
/-! Sets of ints by their number, while, gcd. -/
namespace L3
open PySem L2 PyProof.Rows
/-! ### the first occurrences -/
def dd (ns : List Int) : List Int := ns.foldl step_dedup []
theorem dd_first (ns : List Int) : firstMet (fun i => ns.getD i 0) ns.length = dd ns := by
  have e : (List.range ns.length).map (fun i => ns.getD i 0) = ns := by
    apply List.ext_getElem
    · simp
    · intro i h1 h2
      simp at h1
      simp [h1]
  show ((List.range ns.length).map (fun i => ns.getD i 0)).foldl step_dedup [] = dd ns
  rw [e]
  rfl
theorem sd_in (σ : List Int) (y : Int) : step_dedup σ y = if y ∈ σ then σ else σ ++ [y] := by
  unfold step_dedup
  by_cases h : y ∈ σ
  · have : σ.any (· == y) = true := List.any_eq_true.mpr ⟨y, h, by simp⟩
    simp [h]
  · simp [h]
theorem dd_le (ns : List Int) : ∀ σ : List Int, (ns.foldl step_dedup σ).length ≤ σ.length + ns.length := by
  induction ns with
  | nil => intro σ; exact Nat.le_refl _
  | cons y r ih =>
    intro σ
    rw [List.foldl_cons, sd_in, List.length_cons]
    by_cases h : y ∈ σ
    · rw [if_pos h]; have := ih σ; omega
    · rw [if_neg h]; have := ih (σ ++ [y]); rw [List.length_append, List.length_singleton] at this; omega
theorem dd_ltF (ns : List Int) : ∀ σ : List Int, ((∃ x, x ∈ ns ∧ x ∈ σ) ∨ ¬ ns.Nodup) → (ns.foldl step_dedup σ).length < σ.length + ns.length := by
  induction ns with
  | nil => intro σ h; rcases h with ⟨x, h, _⟩ | h; cases h; exact absurd List.nodup_nil h
  | cons y r ih =>
    intro σ h
    rw [List.foldl_cons, sd_in, List.length_cons]
    by_cases hy : y ∈ σ
    · rw [if_pos hy]; have := dd_le r σ; omega
    · rw [if_neg hy]
      have : (r.foldl step_dedup (σ ++ [y])).length < (σ ++ [y]).length + r.length := by
        apply ih
        rcases h with ⟨x, h1, h2⟩ | h
        · rcases List.mem_cons.mp h1 with rfl | h1
          · exact absurd h2 hy
          · exact .inl ⟨x, h1, List.mem_append.mpr (.inl h2)⟩
        · rw [List.nodup_cons] at h
          by_cases hr : y ∈ r
          · exact .inl ⟨y, hr, List.mem_append.mpr (.inr (List.mem_singleton.mpr rfl))⟩
          · exact .inr fun z => h ⟨hr, z⟩
      rw [List.length_append, List.length_singleton] at this
      omega
theorem dd_eqF (ns : List Int) : ∀ σ : List Int, (∀ x, x ∈ ns → x ∉ σ) → ns.Nodup → (ns.foldl step_dedup σ).length = σ.length + ns.length := by
  induction ns with
  | nil => intro σ _ _; rfl
  | cons y r ih =>
    intro σ h hn
    rw [List.nodup_cons] at hn
    rw [List.foldl_cons, sd_in, if_neg (h y List.mem_cons_self), ih _ _ hn.2]
    · simp only [List.length_append, List.length_cons, List.length_nil]; omega
    · intro x hx hm
      rcases List.mem_append.mp hm with hm | hm
      · exact h x (List.mem_cons_of_mem _ hx) hm
      · rw [List.mem_singleton] at hm; rw [hm] at hx; exact hn.1 hx
/-- as many as there are, exactly if no two are the same -/
theorem dd_len (ns : List Int) : (dd ns).length = ns.length ↔ ns.Nodup := by
  constructor
  · intro h
    apply Classical.byContradiction
    intro hn
    have := dd_ltF ns [] (.inr hn)
    rw [List.length_nil, Nat.zero_add] at this
    exact absurd h (Nat.ne_of_lt this)
  · intro h
    have := dd_eqF ns [] (fun _ _ z => by cases z) h
    rw [List.length_nil, Nat.zero_add] at this
    exact this
section
variable {K : PySem.W.Frag} {a : Addr} {H : Hp} {Q : VK} {ns : List Int} {xs : List V}
def LsR (K : PySem.W.Frag) (x : V) (H : Hp) (Q : VK) : Prop := ∃ (l : Addr) (ns : List Int), x = .ref l ∧ SqL K H l (ns.map V.int) ∧ ns.length ≤ 4000 ∧ Q (.int ((dd ns).length : Nat)) H
def tLenSetG (K : PySem.W.Frag) (ta : TE) : TE := fun σ H Q => ta σ H fun x H1 => LsR K x H1 Q
theorem g_lset {ta : TE} {σ : L2.St} (h : ta σ H fun x H1 => LsR K x H1 Q) : tLenSetG K ta σ H Q := h
theorem ls_at (h1 : H a = some (.lst xs)) (e : xs = ns.map V.int) (hl : ns.length ≤ 4000) (h : Q (.int ((dd ns).length : Nat)) H) : LsR K (.ref a) H Q := ⟨a, ns, rfl, SqL.of (e ▸ h1), hl, h⟩
end
/-- len(set(l)) of a list of ints, some of which may be the same -/
theorem pe_lenSetG {X : Cx} {K : PySem.W.Frag} {o : Expr} {to : TE} {p1 p2 p3 p4 : Pos} (hK : X.K = K) (g1 : Gl X "len") (m1 : X.mg "len" = none) (g2 : Gl X "set") (m2 : X.mg "set" = none) (ho : PE X o to) (calm : X.calm = true := by rfl)
    (one : starEach [o] X.env = (false, eval o X.env) :: starEach [] X.env := by rfl) :
    PE X (.Call (.Name "len" p1) [.Call (.Name "set" p2) [o] [] p3] [] p4) (tLenSetG K to) := by
  subst hK
  constructor
  intro pins s0 σ H0 Q0 J hw
  apply Call_ (ld_blt J g1 m1 boot_len _)
  apply callWith_builtin1 (args_cons _ rfl) rfl rfl
  apply Call_ (ld_blt J g2 m2 boot_set _)
  apply callWith_type1 _ one rfl
  apply args_cons _ one
  apply thn (ho.run pins s0 σ H0 _ J hw)
  rintro v s1 ⟨x, H1, J1, rx, l, ns, ex, sq, short, q⟩
  subst ex
  cases rx
  apply args_nil
  obtain ⟨us, vs, plain, room⟩ := J1.list sq
  have sz : us.toArray.size = ns.length := by rw [List.size_toArray, ← vs.length, List.length_map]
  apply call_set_list (J1.ok.hd calm) plain.isList (by simpa using RZ.intsAre_vals vs) (by unfold scanBound; omega)
  intro h2 tk made kept
  apply args_nil
  rw [sz, dd_first] at made
  obtain ⟨ob, els, epoch, tab, at_, exact_, data_, _, _, _, fits_, size_⟩ := made
  have J2 : Inv X pins σ H1 { s1 with heap := h2, toks := tk } := J1.kept fun b ob e => kept b ob (Heap.lt_size e) e
  have le : (dd ns).length ≤ ns.length := by have := dd_le ns []; rw [List.length_nil, Nat.zero_add] at this; exact this
  exact call_len_set at_ exact_ data_ fits_ (by omega) ⟨.int ((dd ns).length : Nat), H1, J2.tok _, ⟨_, by rw [size_]⟩, q⟩

/-- f(k = v, ..) -/
theorem pe_callN0 {X : Cx} {CX : CXT} {lv : Nat} {fa : Addr} {fd : FuncData} {ps ks : List PySem.Str} {sp : Sp} {g : List Value → List Value → List Value} {gV : List V → List V → List V} {E : XK} {nm : PySem.Str} {p1 p2 : Pos} {kws : List Keyword} {tk : TA}
    (F : FnOk X.prog X.w X.K X.mg X.base CX lv fa fd ps sp) (room : Room lv X.A) (glob : Gl X nm) (isf : X.mg nm = some (.ref fa)) (kp : PySem.W.keepIn X.K (.ref fa) = true) (bnd : KBn X.K fd ps 0 ks g gV) (pass : Passes CX X E) (hkw : PK X kws tk)
    (named : (backToKw p2 (keywordEach kws X.env)).all (·.1.isSome) = true := by rfl) (same : (backToKw p2 (keywordEach kws X.env)).filterMap (·.1) = ks := by rfl) (nodbg : (nm == ("__debug__" : PySem.Str)) = false := by decide)
    (plain : ((backTo p2 (starEach [] X.env)).any (·.1) || (backToKw p2 (keywordEach kws X.env)).any (·.1.isNone)) = false := by rfl) :
    PE X (.Call (.Name nm p1) [] kws p2) (tCallN 0 ks.length sp gV E tNil tk) := by
  constructor
  intro pins s0 σ H0 Q0 J hw
  apply wpAny_Call_Name_kw (ld_glob J glob isf _ nodbg)
  apply PySem.W.callWith_KW0 (h₀ := X.base) J.ok.mod.kin kp named _ plain
  apply thn (hkw.run p2 pins s0 σ H0 _ J hw)
  rintro ws s1 ⟨zs, H1, J1, rz, n1, n2, q⟩
  refine ⟨J1.kIn, ?_⟩
  rw [same]
  exact run_fnN (us := []) (vs := []) F room bnd pass J1 .nil rz n1 n2 q
/-! ### gcd -/
/-- no tactic is to look into it -/
@[irreducible] def gcdZ (i j : Int) : Int := ((Nat.gcd i.natAbs j.natAbs : Nat) : Int)
section
variable {H : Hp} {Q : VK} {i j : Int}
theorem b_gcd (h : Q (.int (gcdZ i j)) H) : rGcd [.int i, .int j] H Q := ⟨i, j, rfl, by unfold gcdZ at h; exact h⟩
end
/-! ### while -/
section
variable {c : TT} {tb : TS} {nx bk ct : L2.St → Hp → Prop} {rt : VK} {σ : L2.St} {H : Hp} {b : Bool} {P : Prop}
/-- a turn of a while, behind its test -/
def WhB (b : Bool) (tb : TS) (Pv : Nat → L2.St → Hp → Prop) (m : Nat) (nx : L2.St → Hp → Prop) (rt : VK) (σ : L2.St) (H : Hp) : Prop :=
  if b = true then ∃ N : L2.St → Hp → Prop, (∀ σ' H', N σ' H' → ∃ m', m' < m ∧ Pv m' σ' H') ∧ tb ⟨N, rt, nx, N⟩ σ H else nx σ H
variable {Pv : Nat → L2.St → Hp → Prop} {m : Nat}
theorem f_while (Pv : Nat → L2.St → Hp → Prop) (h0 : ∃ m, Pv m σ H) (hs : ∀ m σ' H', Pv m σ' H' → c σ' H' fun b H1 => WhB b tb Pv m nx rt σ' H1) : tWhile c tb ⟨nx, rt, bk, ct⟩ σ H := ⟨Pv, h0, hs⟩
theorem wh_T (h : tb ⟨fun σ2 H2 => ∃ m', m' < m ∧ Pv m' σ2 H2, rt, nx, fun σ2 H2 => ∃ m', m' < m ∧ Pv m' σ2 H2⟩ σ H) : WhB true tb Pv m nx rt σ H := ⟨_, fun _ _ z => z, h⟩
theorem wh_F (h : nx σ H) : WhB false tb Pv m nx rt σ H := h
theorem wh_y {dP : Decidable P} (e : P) (h : tb ⟨fun σ2 H2 => ∃ m', m' < m ∧ Pv m' σ2 H2, rt, nx, fun σ2 H2 => ∃ m', m' < m ∧ Pv m' σ2 H2⟩ σ H) : WhB (decide P) tb Pv m nx rt σ H := by rw [decide_eq_true e]; exact wh_T h
theorem wh_n {dP : Decidable P} (e : ¬ P) (h : nx σ H) : WhB (decide P) tb Pv m nx rt σ H := by rw [decide_eq_false e]; exact wh_F h
theorem wh_2 {dP : Decidable P} (h1 : P → tb ⟨fun σ2 H2 => ∃ m', m' < m ∧ Pv m' σ2 H2, rt, nx, fun σ2 H2 => ∃ m', m' < m ∧ Pv m' σ2 H2⟩ σ H) (h2 : ¬ P → nx σ H) : WhB (decide P) tb Pv m nx rt σ H := by
  by_cases h : P
  · exact wh_y h (h1 h)
  · exact wh_n h (h2 h)
theorem wh_n2 {dP : Decidable P} (h1 : ¬ P → tb ⟨fun σ2 H2 => ∃ m', m' < m ∧ Pv m' σ2 H2, rt, nx, fun σ2 H2 => ∃ m', m' < m ∧ Pv m' σ2 H2⟩ σ H) (h2 : P → nx σ H) : WhB (!decide P) tb Pv m nx rt σ H := by
  by_cases h : P
  · rw [decide_eq_true h]; exact wh_F (h2 h)
  · rw [decide_eq_false h]; exact wh_T (h1 h)
end
section
variable {K : PySem.W.Frag} {A B : Addr}
theorem kit_yes (hd : PySem.W.hasDictIn K B = true) (ht : PySem.W.typeIn K (.ref B) = some (.type "type")) (hs : PySem.W.subIn K (.ref A) (.ref B) = some true) : PySem.W.kitOne K (.ref A) (.ref B) = some true := by
  obtain ⟨cd, hc, _⟩ := PySem.W.any_some hd
  have both : ((PySem.W.clsIn K B).isSome && PySem.W.typeIn K (.ref B) == some (.type "type")) = true := by rw [hc, ht] <;> rfl
  unfold PySem.W.kitOne
  by_cases z : (Value.ref A == Value.ref B) = true
  · rw [if_pos z]
  · rw [if_neg z]
    show (if ((PySem.W.clsIn K B).isSome && PySem.W.typeIn K (.ref B) == some (.type "type")) = true then _ else _) = _
    rw [if_pos both, hs]
end
end L3

set_option Elab.async false
set_option linter.all false
set_option maxRecDepth 100000
set_option maxHeartbeats 2000000
/-! Great ints by their bits, chains, drawn lists. -/
namespace L3
open PySem L2 PyProof.Rows
theorem Sz.bits {i : Int} {a : Nat} (h : Builtin.Int.intBits i ≤ a) : Sz a i := lt_pow_of_bits h (Nat.le_refl a)
theorem mul_big {a b : Nat} {i j : Int} (ha : Sz a i) (hb : Sz b j) (h : a + b ≤ 134217728) : IntMulOk i j := by
  have h1 : Builtin.Int.intBits i ≤ a := intBits_le ha
  have h2 : Builtin.Int.intBits j ≤ b := intBits_le hb
  have h3 : Builtin.Int.intTooBig ((Builtin.Int.intBits i : Int) + (Builtin.Int.intBits j : Int)) = false := by
    unfold Builtin.Int.intTooBig bitsLine
    simp only [decide_eq_false_iff_not]
    omega
  unfold IntMulOk
  rw [h3, Bool.and_false]
  simp
/-- an int of a script -/
@[irreducible] def Big (i : Int) : Prop := Builtin.Int.intBits i ≤ 1048576
theorem Big.zero : Big 0 := by unfold Big; exact Nat.zero_le _
theorem Big.of {i : Int} (h : Builtin.Int.intBits i ≤ 1048576) : Big i := by unfold Big; exact h
theorem Big.mul {i j : Int} (hi : Big i) (hj : Big j) : IntMulOk i j := by
  unfold Big at hi hj
  have h3 : Builtin.Int.intTooBig ((Builtin.Int.intBits i : Int) + (Builtin.Int.intBits j : Int)) = false := by
    unfold Builtin.Int.intTooBig bitsLine
    simp only [decide_eq_false_iff_not]
    omega
  unfold IntMulOk
  rw [h3, Bool.and_false]
  simp
section
variable {K : PySem.W.Frag} {σ : L2.St} {H : Hp} {Q : VK} {ta tb tc : TE} {r r' : R2} {i j : Int}
theorem g_chain (h : ta σ H fun x H1 => tb σ H1 fun y H2 => r x y H2 fun z H3 => AndVR z (fun σ' H' Q' => tc σ' H' fun w H4 => r' y w H4 Q') σ H3 Q) : tChain r r' ta tb tc σ H Q := h
theorem g_beta {f : TE} (h : f σ H Q) : (fun σ' H' Q' => f σ' H' Q') σ H Q := h
/-- drawn below these bounds -/
inductive Draw : List Int → List Int → Prop
  | nil : Draw [] []
  | cons {t d : Int} {ts ds : List Int} (h0 : 0 ≤ d) (h1 : d < t) (r : Draw ts ds) : Draw (t :: ts) (d :: ds)
theorem Draw.snoc {t d : Int} (h0 : 0 ≤ d) (h1 : d < t) : ∀ {ts ds : List Int}, Draw ts ds → Draw (ts ++ [t]) (ds ++ [d])
  | _, _, .nil => .cons h0 h1 .nil
  | _, _, .cons a b r => .cons a b (r.snoc h0 h1)
theorem Draw.len : ∀ {ts ds : List Int}, Draw ts ds → ds.length = ts.length
  | _, _, .nil => rfl
  | _, _, .cons _ _ r => by rw [List.length_cons, List.length_cons, r.len]
theorem take_snoc {xs : List Int} {i : Nat} (h : i < xs.length) : xs.take (i + 1) = xs.take i ++ [xs[i]] := by
  rw [List.take_add_one, List.getElem?_eq_getElem h]
  rfl
end
end L3
namespace L3
open PySem L2 PyProof.Rows
theorem Sz.zero (a : Nat) : Sz a 0 := by show 0 < 2 ^ a; exact Nat.two_pow_pos a
theorem gcdZ_pos {t n : Int} (hn : 1 ≤ n) : 1 ≤ gcdZ t n := by
  unfold gcdZ
  have g0 : 0 < Nat.gcd t.natAbs n.natAbs := Nat.gcd_pos_of_pos_right _ (by omega)
  omega
theorem gcdZ_le {t n : Int} (hn : 1 ≤ n) : gcdZ t n ≤ n := by
  unfold gcdZ
  have g1 : Nat.gcd t.natAbs n.natAbs ≤ n.natAbs := Nat.gcd_le_right _ (by omega)
  omega
theorem gcdZ_dl (t n : Int) : gcdZ t n ∣ t := by unfold gcdZ; exact Int.natAbs_dvd_natAbs.mp (by rw [Int.natAbs_natCast]; exact Nat.gcd_dvd_left _ _)
theorem gcdZ_dr (t n : Int) : gcdZ t n ∣ n := by unfold gcdZ; exact Int.natAbs_dvd_natAbs.mp (by rw [Int.natAbs_natCast]; exact Nat.gcd_dvd_right _ _)
theorem gcdZ_comm (t n : Int) : gcdZ t n = gcdZ n t := by unfold gcdZ; rw [Nat.gcd_comm]
theorem gcdZ_0 {c : Int} (h : 0 ≤ c) : gcdZ c 0 = c := by unfold gcdZ; rw [Int.natAbs_zero, Nat.gcd_zero_right]; omega
theorem gcdZ_greatest {t n d : Int} (h1 : d ∣ t) (h2 : d ∣ n) : d ∣ gcdZ t n := by
  unfold gcdZ
  rw [← Int.natAbs_dvd_natAbs, Int.natAbs_natCast]
  exact Nat.dvd_gcd (Int.natAbs_dvd_natAbs.mpr h1) (Int.natAbs_dvd_natAbs.mpr h2)
theorem gcdZ_nn (t n : Int) : 0 ≤ gcdZ t n := by unfold gcdZ; omega
/-- the same divisors, the same greatest one -/
theorem gcdZ_eq {a b c d : Int} (h1 : ∀ z : Int, z ∣ a → z ∣ b → z ∣ c ∧ z ∣ d) (h2 : ∀ z : Int, z ∣ c → z ∣ d → z ∣ a ∧ z ∣ b) : gcdZ a b = gcdZ c d := by
  apply Int.dvd_antisymm (gcdZ_nn _ _) (gcdZ_nn _ _)
  · obtain ⟨p, q⟩ := h1 _ (gcdZ_dl a b) (gcdZ_dr a b); exact gcdZ_greatest p q
  · obtain ⟨p, q⟩ := h2 _ (gcdZ_dl c d) (gcdZ_dr c d); exact gcdZ_greatest p q
structure Euc (f n c r t u : Int) : Prop where
  c1 : 1 ≤ c
  cn : c ≤ n
  r0 : 0 ≤ r
  rn : r ≤ n
  g : gcdZ c r = gcdZ f n
  ct : n ∣ f * t - c
  ru : n ∣ f * u - r
  tn : (t.natAbs : Int) ≤ n
  b : (t.natAbs : Int) * r + u.natAbs * c ≤ n
theorem Euc.start (f : Int) {n : Int} (hn : 1 ≤ n) : Euc f n n (f % n) 0 1 := by
  have r0 := Int.emod_nonneg f (show n ≠ 0 by omega)
  have r1 := Int.emod_lt_of_pos f (show 0 < n by omega)
  have e := Int.emod_add_mul_ediv f n
  refine ⟨hn, Int.le_refl _, r0, by omega, ?_, ?_, ?_, by omega, by simp⟩
  · rw [gcdZ_comm f n]
    apply gcdZ_eq
    · intro z h1 h2
      refine ⟨h1, ?_⟩
      rw [← e]
      exact Int.dvd_add h2 (Int.dvd_mul_of_dvd_left h1)
    · intro z h1 h2
      refine ⟨h1, ?_⟩
      rw [Int.emod_def]
      exact Int.dvd_sub h2 (Int.dvd_mul_of_dvd_left h1)
  · rw [Int.mul_zero, Int.zero_sub]; exact Int.dvd_neg.mpr (Int.dvd_refl n)
  · rw [Int.mul_one]; exact ⟨f / n, by omega⟩
theorem Euc.u_le {f n c r t u : Int} (h : Euc f n c r t u) : (u.natAbs : Int) ≤ n := by
  have h1 : 0 ≤ (t.natAbs : Int) * r := Int.mul_nonneg (by omega) h.r0
  have h2 : (u.natAbs : Int) * 1 ≤ u.natAbs * c := Int.mul_le_mul_of_nonneg_left h.c1 (by omega)
  have := h.b
  omega
theorem Euc.step {f n c r t u : Int} (h : Euc f n c r t u) (h0 : r ≠ 0) : Euc f n r (c - c / r * r) u (t - c / r * u) := by
  have r1 : 1 ≤ r := by have := h.r0; omega
  have w0 : 0 ≤ c / r := Int.ediv_nonneg (by have := h.c1; omega) h.r0
  have e : c - c / r * r = c % r := by rw [Int.emod_def, Int.mul_comm]
  have m0 := Int.emod_nonneg c h0
  have m1 := Int.emod_lt_of_pos c (show 0 < r by omega)
  have un := h.u_le
  have b := h.b
  have rn := h.rn
  generalize hw : c / r = w at *
  refine ⟨r1, h.rn, by omega, by omega, ?_, h.ru, ?_, un, ?_⟩
  · rw [← h.g]
    apply gcdZ_eq
    · intro z h1 h2
      refine ⟨?_, h1⟩
      have : c = (c - w * r) + w * r := by omega
      rw [this]
      exact Int.dvd_add h2 (Int.dvd_mul_of_dvd_right h1)
    · intro z h1 h2
      exact ⟨h2, Int.dvd_sub h1 (Int.dvd_mul_of_dvd_right h2)⟩
  · have : f * (t - w * u) - (c - w * r) = (f * t - c) - w * (f * u - r) := by grind
    rw [this]
    exact Int.dvd_sub h.ct (Int.dvd_mul_of_dvd_right h.ru)
  · have a1 : (t - w * u).natAbs ≤ t.natAbs + w.natAbs * u.natAbs := by rw [← Int.natAbs_mul]; exact Int.natAbs_sub_le _ _
    have a2 : ((t - w * u).natAbs : Int) ≤ t.natAbs + w * u.natAbs := by
      have : ((t.natAbs + w.natAbs * u.natAbs : Nat) : Int) = t.natAbs + w * u.natAbs := by rw [Int.natCast_add, Int.natCast_mul, Int.natAbs_of_nonneg w0]
      omega
    have a3 : ((t - w * u).natAbs : Int) * r ≤ (t.natAbs + w * u.natAbs) * r := Int.mul_le_mul_of_nonneg_right a2 (by omega)
    have a4 : (u.natAbs : Int) * (c - w * r) + (t.natAbs + w * u.natAbs) * r = (t.natAbs : Int) * r + u.natAbs * c := by grind
    omega
theorem Euc.done {f n c t u : Int} (h : Euc f n c 0 t u) : c = gcdZ f n := by
  have := h.g
  rw [gcdZ_0 (by have := h.c1; omega)] at this
  exact this
theorem sol_ok {f n t W : Int} (hn : 1 ≤ n) (hw : W % gcdZ f n = 0) (ht : n ∣ f * t - gcdZ f n) : (f * ((W / gcdZ f n * t) % (n / gcdZ f n)) - W) % n = 0 := by
  obtain ⟨k, hk⟩ := ht
  obtain ⟨a, ha⟩ := gcdZ_dl f n
  obtain ⟨m, hm⟩ := gcdZ_dr f n
  have g1 := gcdZ_pos (t := f) hn
  have e1 : n / gcdZ f n = m := by
    have : (gcdZ f n * m) / gcdZ f n = m := Int.mul_ediv_cancel_left _ (by omega)
    rw [← hm] at this
    exact this
  have e2 : W = gcdZ f n * (W / gcdZ f n) := by have := Int.emod_add_mul_ediv W (gcdZ f n); omega
  rw [e1]
  generalize W / gcdZ f n = v at *
  generalize gcdZ f n = g at *
  apply Int.emod_eq_zero_of_dvd
  rw [Int.emod_def]
  refine ⟨v * k - a * ((v * t) / m), ?_⟩
  generalize (v * t) / m = q at *
  have : f * (v * t - m * q) - W = v * (f * t - g) - (f * m) * q + (g * v - W) := by grind
  rw [this, hk, ← e2]
  have : f * m = n * a := by rw [ha, hm]; grind
  rw [this]
  grind
end L3
namespace L3
open PySem L2 PyProof.Rows
theorem bez_go {f n : Int} : ∀ (m : Nat) (c r t u : Int), r.toNat = m → Euc f n c r t u → ∃ t', n ∣ f * t' - gcdZ f n := by
  intro m
  induction m using Nat.strongRecOn with
  | ind m ih =>
    intro c r t u e h
    by_cases z : r = 0
    · subst z
      refine ⟨t, ?_⟩
      rw [← h.done]
      exact h.ct
    · have h2 := h.step z
      have r1 : 0 < r := by have := h.r0; omega
      have m1 := Int.emod_lt_of_pos c r1
      have e3 : c - c / r * r = c % r := by rw [Int.emod_def, Int.mul_comm]
      exact ih (c - c / r * r).toNat (by have := h2.r0; omega) _ _ _ _ rfl h2
theorem bez (f : Int) {n : Int} (hn : 1 ≤ n) : ∃ t, n ∣ f * t - gcdZ f n := bez_go _ _ _ _ _ rfl (Euc.start f hn)
/-- n divides j times t exactly if n over the greatest common divisor divides j -/
theorem timesZ {n t : Int} (hn : 1 ≤ n) (j : Int) : (j * t) % n = 0 ↔ n / gcdZ t n ∣ j := by
  obtain ⟨m, hm⟩ := gcdZ_dr t n
  obtain ⟨a, ha⟩ := gcdZ_dl t n
  obtain ⟨s, k, hk⟩ := bez t hn
  have g1 := gcdZ_pos (t := t) hn
  have e1 : n / gcdZ t n = m := by
    have : (gcdZ t n * m) / gcdZ t n = m := Int.mul_ediv_cancel_left _ (by omega)
    rw [← hm] at this
    exact this
  rw [e1]
  generalize gcdZ t n = g at *
  constructor
  · intro h
    obtain ⟨w, hw⟩ := Int.dvd_of_emod_eq_zero h
    -- g j = j t s - j n k
    refine ⟨w * s - j * k, ?_⟩
    apply Int.eq_of_mul_eq_mul_left (show g ≠ 0 by omega)
    have : g * j = j * t * s - j * (t * s - g) := by grind
    rw [this, hw, hk, hm]
    grind
  · rintro ⟨w, hw⟩
    apply Int.emod_eq_zero_of_dvd
    refine ⟨w * a, ?_⟩
    rw [hw, ha, hm]
    grind
theorem lin_none {b L n : Int} (hL : L % gcdZ b n ≠ 0) (k : Int) : (b * k - L) % n ≠ 0 := by
  intro h
  apply hL
  have h1 := Int.dvd_of_emod_eq_zero h
  have h2 : gcdZ b n ∣ b * k - L := Int.dvd_trans (gcdZ_dr b n) h1
  have h3 : gcdZ b n ∣ b * k := Int.dvd_mul_of_dvd_left (gcdZ_dl b n)
  have h4 : gcdZ b n ∣ L := by
    have := Int.dvd_sub h3 h2
    have e : b * k - (b * k - L) = L := by omega
    rw [e] at this
    exact this
  exact Int.emod_eq_zero_of_dvd h4
theorem lin_iff {b L n x : Int} (hn : 1 ≤ n) (x0 : 0 ≤ x) (x1 : x < n / gcdZ b n) (hx : (b * x - L) % n = 0) (k : Int) : (b * k - L) % n = 0 ↔ k % (n / gcdZ b n) = x := by
  have e1 : (b * k - L) % n = 0 ↔ ((k - x) * b) % n = 0 := by
    have d1 := Int.dvd_of_emod_eq_zero hx
    constructor
    · intro h
      have d2 := Int.dvd_sub (Int.dvd_of_emod_eq_zero h) d1
      have e : b * k - L - (b * x - L) = (k - x) * b := by grind
      rw [e] at d2
      exact Int.emod_eq_zero_of_dvd d2
    · intro h
      have d2 := Int.dvd_add (Int.dvd_of_emod_eq_zero h) d1
      have e : (k - x) * b + (b * x - L) = b * k - L := by grind
      rw [e] at d2
      exact Int.emod_eq_zero_of_dvd d2
  rw [e1, timesZ hn]
  constructor
  · rintro ⟨w, hw⟩
    have : k = x + n / gcdZ b n * w := by omega
    rw [this, Int.add_mul_emod_self_left, Int.emod_eq_of_lt x0 x1]
  · intro h
    have := Int.emod_add_mul_ediv k (n / gcdZ b n)
    exact ⟨k / (n / gcdZ b n), by omega⟩
theorem lin_ex {b L n : Int} (hn : 1 ≤ n) (hL : L % gcdZ b n = 0) : ∃ x, 0 ≤ x ∧ x < n / gcdZ b n ∧ (b * x - L) % n = 0 := by
  obtain ⟨t, ht⟩ := bez b hn
  have g1 := gcdZ_pos (t := b) hn
  have m1 : 1 ≤ n / gcdZ b n := by
    rw [Int.le_ediv_iff_mul_le (by omega)]
    have := gcdZ_le (t := b) hn
    omega
  exact ⟨_, Int.emod_nonneg _ (by omega), Int.emod_lt_of_pos _ (by omega), sol_ok hn hL ht⟩
theorem lin_one {b L n x y : Int} (hn : 1 ≤ n) (x0 : 0 ≤ x) (x1 : x < n / gcdZ b n) (hx : (b * x - L) % n = 0) (y0 : 0 ≤ y) (y1 : y < n / gcdZ b n) (hy : (b * y - L) % n = 0) : y = x := by
  have := (lin_iff hn x0 x1 hx y).mp hy
  rw [Int.emod_eq_of_lt y0 y1] at this
  exact this
theorem filter_one (m x : Nat) (p : Nat → Bool) (hp : ∀ k, k < m → (p k = true ↔ k = x)) : (List.range m).filter p = if x < m then [x] else [] := by
  induction m with
  | zero => simp
  | succ m ih =>
    rw [List.range_succ, List.filter_append, ih (fun k hk => hp k (by omega))]
    by_cases e : m = x
    · subst e
      have : p m = true := (hp m (by omega)).mpr rfl
      simp [this]
    · have : p m = false := by
        cases h : p m
        · rfl
        · exact absurd ((hp m (by omega)).mp h) e
      rw [List.filter_cons, this]
      simp only [List.filter_nil, Bool.false_eq_true, if_false, List.append_nil]
      by_cases h : x < m
      · rw [if_pos h, if_pos (by omega)]
      · rw [if_neg h, if_neg (by omega)]
theorem filter_prog (m x : Nat) (hx : x < m) (p : Nat → Bool) (hp : ∀ k, p k = true ↔ k % m = x) : ∀ g : Nat, (List.range (g * m)).filter p = (List.range g).map fun i => x + i * m
  | 0 => by simp
  | g + 1 => by
    rw [Nat.succ_mul, List.range_add, List.filter_append, filter_prog m x hx p hp g, List.range_succ, List.map_append, List.filter_map]
    congr 1
    rw [filter_one m x _ (fun k hk => by
      show p (g * m + k) = true ↔ k = x
      rw [hp, Nat.add_comm, Nat.add_mul_mod_self_right, Nat.mod_eq_of_lt hk])]
    rw [if_pos hx]
    simp [Nat.add_comm]
end L3

/-! ### slices of lists -/
namespace L3
open PySem L2 PyProof.Rows
section
variable {K : PySem.W.Frag} {σ : L2.St} {H : Hp} {Q : VK} {a : Addr} {te t : TE} {tl th : TO} {r : V → Option Int → Option Int → Hp → VK → Prop} {xs ys : List V} {lo hi : Option Int} {i : Int}
theorem g_sl (h : te σ H fun x H1 => tl σ H1 fun l H2 => th σ H2 fun u H3 => r x l u H3 Q) : tSl r te tl th σ H Q := h
def PartR (x : V) (H : Hp) (Q : Option Int → Hp → Prop) : Prop := ∃ i, x = .int i ∧ Q (some i) H
theorem g_part {Q : Option Int → Hp → Prop} (h : t σ H fun x H1 => PartR x H1 Q) : tPart t σ H Q := h
theorem part_at {Q : Option Int → Hp → Prop} (h : Q (some i) H) : PartR (.int i) H Q := ⟨i, rfl, h⟩
theorem g_nopart {Q : Option Int → Hp → Prop} (h : Q none H) : tNoPart σ H Q := h
theorem sl_at (h1 : H a = some (.lst xs)) (e : cutV xs lo hi = ys) (k : ∀ p H', Fr H p → Same H H' → H' p = some (.lst ys) → Q (.ref p) H') : rSlL K (.ref a) lo hi H Q := ⟨a, xs, rfl, SqL.of h1, fun p hp => k p _ ⟨hp⟩ (same_upd hp) (by rw [e]; exact upd_same)⟩
end
end L3

/-! ### tuples, also of the written part -/
namespace L3
open PySem L2 PyProof.Rows
section
variable {K : PySem.W.Frag} {σ : L2.St} {H H' : Hp} {a : Addr} {xs : List V} {nx : L2.St → Hp → Prop}
theorem sqt_same (h : SqT K H a xs) (s : Same H H') : SqT K H' a xs := by
  rcases h with h | h
  · rcases h with h | h
    · exact .inl (.inl (s _ _ h))
    · obtain ⟨o, h⟩ := h; exact .inl (.inr ⟨o, s _ _ h⟩)
  · exact .inr h
theorem g_gtupq {n : Nat} {t : TGs} (h1 : SqT K H a xs) (hl : xs.length = n) (h : t xs σ H nx) : gTup K n t (.ref a) σ H nx := ⟨a, xs, rfl, h1, hl, h⟩
/-- a written tuple of two ints -/
theorem sqt_two {p q : Int} {u0 u1 : Tok} {m : Nat} (hl : K.lookup a = some ⟨.type "tuple", none, .seq #[.int p u0, .int q u1] m, #[]⟩) : SqT K H a [.int p, .int q] :=
  .inr ⟨_, _, _, hl, rfl, rfl, by show 2 ≤ sizeLine; decide, .cons ⟨u0, rfl⟩ (.cons ⟨u1, rfl⟩ .nil)⟩
end
end L3

set_option Elab.async false
set_option linter.all false
set_option maxRecDepth 100000
set_option maxHeartbeats 2000000
/-! Comprehensions whose items change tracked lists; the eight turns. -/
namespace L3
open PySem L2 PyProof.Rows
section
variable {K : PySem.W.Frag} {H : Hp} {Q : VK} {g : TG} {tt : TT} {te : TE} {vs : List Nat} {σ : L2.St} {x y : V}
theorem lcr1_acc {j : Int} (Pv : Nat → List V → Hp → Prop) (b1 : -(2 ^ 62) ≤ j) (hz : j ≤ 100000) (h0 : Pv 0 [] H)
    (fr : ∀ D, H D = none → ∀ i acc H1 H2, SB D H1 H2 → Pv i acc H1 → Pv i acc H2)
    (hs : ∀ (i : Nat) acc H1, (i : Int) < j → acc.length = i → Pv i acc H1 → ∀ Z : Option V → Hp → Prop, (∀ y H4, (∀ a u, H a = none → H1 a = some u → H4 a = some u) → Pv (i + 1) (acc ++ [y]) H4 → Z (some y) H4) → LcT g tt te vs σ (.int i) H1 Z)
    (k : ∀ D acc H', Fr H D → acc.length = j.toNat → Pv j.toNat acc H' → H' D = some (.lst acc) → Q (.ref D) H') : LcR1 g tt te vs σ [.int j] H Q := by
  refine ⟨j, rfl, b1, by omega, fun D hD => lc_range (fun i H' => ∃ acc, acc.length = i ∧ i ≤ j.toNat ∧ Pv i acc H' ∧ H' D = some (.lst acc)) ⟨[], rfl, Nat.zero_le _, fr D hD _ _ _ _ sb_upd h0, upd_same⟩ ?_ ?_⟩
  · rintro i H1 lt ⟨acc, al, il, pv, eD⟩
    rw [Int.zero_add]
    refine hs i acc H1 (by omega) al pv (fun o H4 => match o with
      | some y => ∃ ac, H4 D = some (.lst ac) ∧ ac.length < sizeLine ∧ ∃ acc', acc'.length = i + 1 ∧ i + 1 ≤ j.toNat ∧ Pv (i + 1) acc' (upd H4 D (.lst (ac ++ [y]))) ∧ (upd H4 D (.lst (ac ++ [y]))) D = some (.lst acc')
      | none => ∃ acc', acc'.length = i + 1 ∧ i + 1 ≤ j.toNat ∧ Pv (i + 1) acc' H4 ∧ H4 D = some (.lst acc')) fun y H4 keep pv4 => ?_
    refine ⟨acc, keep D _ hD eD, ?_, acc ++ [y], by rw [List.length_append, al]; rfl, lt, fr D hD _ _ _ _ sb_upd pv4, upd_same⟩
    rw [al]
    exact Nat.lt_of_le_of_lt (by omega : _ ≤ 100000) (by decide)
  · rintro H1 ⟨acc, al, _, pv, eD⟩
    exact k D acc H1 ⟨hD⟩ al pv eD
theorem o_eqde {d e : PyData} (h1 : Dp K H x d) (h2 : Dp K H y e) (s1 : SeqAt.shaped d = true) (s2 : SeqAt.shaped e = true) (h : Q (.bl (PyData.eqv d e)) H) : rEqD K x y H Q := ⟨d, e, h1, h2, s1, s2, h⟩
end
/-! ### the eight turns -/
def wp (g : Fin 8) : Int := [1, 0, -1, 0, -1, 1, 0, 0].getD g.val 0
def wq (g : Fin 8) : Int := [0, -1, 0, 1, 0, 0, 1, -1].getD g.val 0
def ws (g : Fin 8) : Int := [0, 1, 0, -1, 0, 0, 1, -1].getD g.val 0
def wt (g : Fin 8) : Int := [1, 0, -1, 0, 1, -1, 0, 0].getD g.val 0
def we (g : Fin 8) : Int := [0, 1, 1, 0, 1, 0, 0, 1].getD g.val 0
def wf (g : Fin 8) : Int := [0, 0, 1, 1, 0, 1, 0, 1].getD g.val 0
def wd (g : Fin 8) : Str := ["same", "quarter", "half", "back", "flip", "mirror", "cross", "anti"].getD g.val "same"
def mulT : List (List (Fin 8)) := [[0, 1, 2, 3, 4, 5, 6, 7], [1, 2, 3, 0, 7, 6, 4, 5], [2, 3, 0, 1, 5, 4, 7, 6], [3, 0, 1, 2, 6, 7, 5, 4], [4, 6, 5, 7, 0, 2, 1, 3], [5, 7, 4, 6, 2, 0, 3, 1], [6, 5, 7, 4, 3, 1, 0, 2], [7, 4, 6, 5, 1, 3, 2, 0]]
def mul8 (g h : Fin 8) : Fin 8 := (mulT.getD g.val []).getD h.val 0
theorem wp_0 : wp 0 = 1 := rfl
theorem wp_1 : wp 1 = 0 := rfl
theorem wp_2 : wp 2 = -1 := rfl
theorem wp_3 : wp 3 = 0 := rfl
theorem wp_4 : wp 4 = -1 := rfl
theorem wp_5 : wp 5 = 1 := rfl
theorem wp_6 : wp 6 = 0 := rfl
theorem wp_7 : wp 7 = 0 := rfl
theorem wq_0 : wq 0 = 0 := rfl
theorem wq_1 : wq 1 = -1 := rfl
theorem wq_2 : wq 2 = 0 := rfl
theorem wq_3 : wq 3 = 1 := rfl
theorem wq_4 : wq 4 = 0 := rfl
theorem wq_5 : wq 5 = 0 := rfl
theorem wq_6 : wq 6 = 1 := rfl
theorem wq_7 : wq 7 = -1 := rfl
theorem ws_0 : ws 0 = 0 := rfl
theorem ws_1 : ws 1 = 1 := rfl
theorem ws_2 : ws 2 = 0 := rfl
theorem ws_3 : ws 3 = -1 := rfl
theorem ws_4 : ws 4 = 0 := rfl
theorem ws_5 : ws 5 = 0 := rfl
theorem ws_6 : ws 6 = 1 := rfl
theorem ws_7 : ws 7 = -1 := rfl
theorem wt_0 : wt 0 = 1 := rfl
theorem wt_1 : wt 1 = 0 := rfl
theorem wt_2 : wt 2 = -1 := rfl
theorem wt_3 : wt 3 = 0 := rfl
theorem wt_4 : wt 4 = 1 := rfl
theorem wt_5 : wt 5 = -1 := rfl
theorem wt_6 : wt 6 = 0 := rfl
theorem wt_7 : wt 7 = 0 := rfl
theorem we_0 : we 0 = 0 := rfl
theorem we_1 : we 1 = 1 := rfl
theorem we_2 : we 2 = 1 := rfl
theorem we_3 : we 3 = 0 := rfl
theorem we_4 : we 4 = 1 := rfl
theorem we_5 : we 5 = 0 := rfl
theorem we_6 : we 6 = 0 := rfl
theorem we_7 : we 7 = 1 := rfl
theorem wf_0 : wf 0 = 0 := rfl
theorem wf_1 : wf 1 = 0 := rfl
theorem wf_2 : wf 2 = 1 := rfl
theorem wf_3 : wf 3 = 1 := rfl
theorem wf_4 : wf 4 = 0 := rfl
theorem wf_5 : wf 5 = 1 := rfl
theorem wf_6 : wf 6 = 0 := rfl
theorem wf_7 : wf 7 = 1 := rfl
theorem mul_p : ∀ g h, wp (mul8 g h) = wp g * wp h + wq g * ws h := by decide
theorem mul_q : ∀ g h, wq (mul8 g h) = wp g * wq h + wq g * wt h := by decide
theorem mul_s : ∀ g h, ws (mul8 g h) = ws g * wp h + wt g * ws h := by decide
theorem mul_t : ∀ g h, wt (mul8 g h) = ws g * wq h + wt g * wt h := by decide
theorem mul_e : ∀ g h, we (mul8 g h) = we g + we h * wp g + wf h * wq g := by decide
theorem mul_f : ∀ g h, wf (mul8 g h) = wf g + we h * ws g + wf h * wt g := by decide
theorem mul_assoc8 : ∀ g h k, mul8 (mul8 g h) k = mul8 g (mul8 h k) := by decide
theorem mul_one8 : ∀ g, mul8 g 0 = g := by decide
theorem one_mul8 : ∀ g, mul8 0 g = g := by decide
/-- the numbers of a turned rule -/
@[irreducible] def RA (g : Fin 8) (a b : Int) : Int := a * wp g + b * ws g
@[irreducible] def RB (g : Fin 8) (a b : Int) : Int := a * wq g + b * wt g
@[irreducible] def RD (g : Fin 8) (a b d : Int) : Int := d - we g * a - wf g * b
/-- where a turned cell comes from -/
@[irreducible] def WR (g : Fin 8) (n r c : Int) : Int := wp g * r + wq g * c + we g * (n - 1)
@[irreducible] def WC (g : Fin 8) (n r c : Int) : Int := ws g * r + wt g * c + wf g * (n - 1)
theorem ra_mul {g h : Fin 8} {a b : Int} : RA h (RA g a b) (RB g a b) = RA (mul8 g h) a b := by unfold RA RB; rw [mul_p, mul_s]; grind
theorem rb_mul {g h : Fin 8} {a b : Int} : RB h (RA g a b) (RB g a b) = RB (mul8 g h) a b := by unfold RB RA; rw [mul_q, mul_t]; grind
theorem rd_mul {g h : Fin 8} {a b d : Int} : RD h (RA g a b) (RB g a b) (RD g a b d) = RD (mul8 g h) a b d := by unfold RD RA RB; rw [mul_e, mul_f]; grind
theorem cr_mul {g h : Fin 8} {n r c : Int} : WR g n (WR h n r c) (WC h n r c) = WR (mul8 g h) n r c := by unfold WR WC; rw [mul_p, mul_q, mul_e]; grind
theorem cc_mul {g h : Fin 8} {n r c : Int} : WC g n (WR h n r c) (WC h n r c) = WC (mul8 g h) n r c := by unfold WC WR; rw [mul_s, mul_t, mul_f]; grind
theorem turn_sign {g : Fin 8} {a b d n x y : Int} : (RA g a b * x + RB g a b * y + RD g a b d) % n = (a * WR g n x y + b * WC g n x y + d) % n := by
  have e : a * WR g n x y + b * WC g n x y + d = RA g a b * x + RB g a b * y + RD g a b d + n * (we g * a + wf g * b) := by unfold RA RB RD WR WC; grind
  rw [e, Int.add_mul_emod_self_left]
def act (gs : List (Fin 8)) : Fin 8 := gs.foldl mul8 0
theorem act_go (gs : List (Fin 8)) : ∀ g, gs.foldl mul8 g = mul8 g (act gs) := by
  induction gs with
  | nil => intro g; exact (mul_one8 g).symm
  | cons h gs ih =>
    intro g
    show gs.foldl mul8 (mul8 g h) = mul8 g (gs.foldl mul8 (mul8 0 h))
    rw [ih, one_mul8, ih h, mul_assoc8]
theorem act_cons (g : Fin 8) (gs : List (Fin 8)) : act (g :: gs) = mul8 g (act gs) := by
  show gs.foldl mul8 (mul8 0 g) = _
  rw [act_go, one_mul8]
theorem act_snoc (gs : List (Fin 8)) (g : Fin 8) : act (gs ++ [g]) = mul8 (act gs) g := by
  unfold act
  rw [List.foldl_append]
  rfl
theorem fin8 (g : Fin 8) : g = 0 ∨ g = 1 ∨ g = 2 ∨ g = 3 ∨ g = 4 ∨ g = 5 ∨ g = 6 ∨ g = 7 := by revert g; decide
theorem WR_in {g : Fin 8} {n r c : Int} (h : 0 ≤ r ∧ r < n ∧ 0 ≤ c ∧ c < n) : 0 ≤ WR g n r c ∧ WR g n r c < n := by
  unfold WR
  rcases fin8 g with rfl | rfl | rfl | rfl | rfl | rfl | rfl | rfl <;> simp only [wp_0, wp_1, wp_2, wp_3, wp_4, wp_5, wp_6, wp_7, wq_0, wq_1, wq_2, wq_3, wq_4, wq_5, wq_6, wq_7, we_0, we_1, we_2, we_3, we_4, we_5, we_6, we_7] <;> omega
theorem WC_in {g : Fin 8} {n r c : Int} (h : 0 ≤ r ∧ r < n ∧ 0 ≤ c ∧ c < n) : 0 ≤ WC g n r c ∧ WC g n r c < n := by
  unfold WC
  rcases fin8 g with rfl | rfl | rfl | rfl | rfl | rfl | rfl | rfl <;> simp only [ws_0, ws_1, ws_2, ws_3, ws_4, ws_5, ws_6, ws_7, wt_0, wt_1, wt_2, wt_3, wt_4, wt_5, wt_6, wt_7, wf_0, wf_1, wf_2, wf_3, wf_4, wf_5, wf_6, wf_7] <;> omega
theorem RA_0 (a b : Int) : RA 0 a b = a := by unfold RA; simp only [wp_0, ws_0]; omega
theorem RB_0 (a b : Int) : RB 0 a b = b := by unfold RB; simp only [wq_0, wt_0]; omega
theorem RD_0 (a b d : Int) : RD 0 a b d = d := by unfold RD; simp only [we_0, wf_0]; omega
theorem RA_bd {g : Fin 8} {a b m : Int} (ha : -m ≤ a ∧ a ≤ m) (hb : -m ≤ b ∧ b ≤ m) : -m ≤ RA g a b ∧ RA g a b ≤ m := by
  unfold RA
  rcases fin8 g with rfl | rfl | rfl | rfl | rfl | rfl | rfl | rfl <;> simp only [wp_0, wp_1, wp_2, wp_3, wp_4, wp_5, wp_6, wp_7, ws_0, ws_1, ws_2, ws_3, ws_4, ws_5, ws_6, ws_7] <;> omega
theorem RB_bd {g : Fin 8} {a b m : Int} (ha : -m ≤ a ∧ a ≤ m) (hb : -m ≤ b ∧ b ≤ m) : -m ≤ RB g a b ∧ RB g a b ≤ m := by
  unfold RB
  rcases fin8 g with rfl | rfl | rfl | rfl | rfl | rfl | rfl | rfl <;> simp only [wq_0, wq_1, wq_2, wq_3, wq_4, wq_5, wq_6, wq_7, wt_0, wt_1, wt_2, wt_3, wt_4, wt_5, wt_6, wt_7] <;> omega
/-- two cells of size 3 tell the turn -/
def cdat (g : Fin 8) : PyData := .list [.tuple [.int (WR g 3 0 0), .int (WC g 3 0 0)], .tuple [.int (WR g 3 0 1), .int (WC g 3 0 1)]]
end L3

set_option Elab.async false
set_option linter.all false
set_option maxRecDepth 100000
set_option maxHeartbeats 2000000
/-! zip in comprehensions, lcm, integers that return in equal distances. -/
namespace L3
open PySem L2 PyProof.Rows
/-! ### lcm -/
def lcmZ (i j : Int) : Int := ((Nat.lcm i.natAbs j.natAbs : Nat) : Int)
def rLcm : List V → Hp → VK → Prop := fun vs H Q => ∃ a b : Int, vs = [.int a, .int b] ∧ Sz 9000 a ∧ Sz 9000 b ∧ Q (.int (lcmZ a b)) H
theorem log_small {n : Nat} (h : n < 2 ^ 9000) : ¬ n.log2 / 30 + 1 > 450 := by
  have : n.log2 ≤ 8999 := by
    by_cases h0 : n = 0
    · subst h0; rw [Nat.log2_zero]; omega
    · exact Nat.le_of_lt_succ ((Nat.log2_lt h0).mpr h)
  omega
theorem cr_lcm {X : Cx} : CallR X (.builtin "math.lcm") rLcm := by
  intro pins s σ H vs us Q I r h
  obtain ⟨a, b, rfl, sa, sb, q⟩ := h
  obtain ⟨t, u, rfl⟩ := Vals.int2 r
  have e1 : max 1 a.natAbs < 2 ^ 9000 := by
    have : 1 < 2 ^ 9000 := Nat.one_lt_two_pow (by decide)
    unfold Sz at sa
    exact Nat.max_lt.mpr ⟨this, sa⟩
  have e2 : max a.natAbs b.natAbs < 2 ^ 9000 := Nat.max_lt.mpr ⟨sa, sb⟩
  have e3 : Nat.lcm 1 a.natAbs = a.natAbs := Nat.lcm_one_left _
  have e4 : (((Nat.lcm 1 a.natAbs).lcm b.natAbs : Nat) : Int) = lcmZ a b := by rw [e3]; rfl
  have hsz : ((((Nat.lcm 1 a.natAbs).lcm b.natAbs : Nat) : Int)).natAbs.log2 < bitsLine := by
    rw [Int.natAbs_natCast, e3]
    have le : a.natAbs.lcm b.natAbs ≤ a.natAbs * b.natAbs := Nat.div_le_self _ _
    have lt : a.natAbs * b.natAbs < 2 ^ (9000 + 9000) := by rw [Nat.pow_add]; exact Nat.mul_lt_mul'' sa sb
    generalize a.natAbs.lcm b.natAbs = L at *
    by_cases h0 : L = 0
    · subst h0; rw [Nat.log2_zero]; decide
    · have := (Nat.log2_lt h0).mpr (Nat.lt_of_le_of_lt le lt)
      exact Nat.lt_of_lt_of_le this (by decide)
  refine PySem.call_function_meets PySem.W.MGF.kind_lcm PySem.W.MGF.plain_lcm PySem.W.MGF.entry_lcm (PySem.W.MGF.args_lcm _ _) (PySem.W.mg_run_lcm a t b u (log_small e1) (log_small e2) hsz).meets ?_
  rw [e4]
  exact ⟨.int _, H, I.tok _, ⟨_, rfl⟩, q⟩
theorem b_lcm {H : Hp} {Q : VK} {i j : Int} (si : Sz 9000 i) (sj : Sz 9000 j) (h : Q (.int (lcmZ i j)) H) : rLcm [.int i, .int j] H Q := ⟨i, j, rfl, si, sj, h⟩
/-! ### divmod -/
def rDm : List V → Hp → VK → Prop := fun xs H Q => ∃ i j, xs = [.int i, .int j] ∧ CDivP i j ∧ ∀ p, H p = none → Q (.ref p) (upd H p (.tup [.int (i / j), .int (i % j)]))
theorem c_dm {X : Cx} : CallR X (.builtin "divmod") rDm := call_divmodW
theorem b_divmod {H : Hp} {Q : VK} {i j : Int} (hj : 0 < j) (hi : Sz 4000 i) (k : ∀ p H', Fr H p → Same H H' → H' p = some (.tup [.int (i / j), .int (i % j)]) → Q (.ref p) H') : rDm [.int i, .int j] H Q :=
  ⟨i, j, rfl, divp_ok hj (Nat.le_trans (intBits_le hi) (Nat.le_add_left _ _)), fun p hp => k p _ ⟨hp⟩ (same_upd hp) upd_same⟩
/-! ### zip -/
section
variable {K : PySem.W.Frag} {H : Hp} {Q : VK} {g : TG} {tt : TT} {te : TE} {ta : TA} {vs : List Nat} {σ : L2.St} {a b : Addr} {xs ys : List V}
theorem pi_zipK {X : Cx} {e e2 : Expr} {p pos tpos : Pos} {elts : List Expr} {kk : Nat} (hK : X.K = K) (hg : Gl X "zip") (hm : X.mg "zip" = none) (ha : PA X [e, e2] ta)
    (hs : starEach [e, e2] X.env = (false, eval e X.env) :: starEach [e2] X.env := by rfl) (hpl : (backTo pos (starEach [e2] X.env)).any (·.1) = false := by rfl) :
    PI X (.Tuple elts kk tpos) (.Call (.Name "zip" p) [e, e2] [] pos) (iZip K ta) := by subst hK; exact pi_zip hg hm ha hs hpl
def LcZ (K : PySem.W.Frag) (g : TG) (tt : TT) (te : TE) (vs : List Nat) (σ : L2.St) (us : List V) (H1 : Hp) (Q : VK) : Prop := ∃ a b xs ys, us = [.ref a, .ref b] ∧ SqL K H1 a xs ∧ SqL K H1 b ys ∧ ∀ D, H1 D = none → ∃ W : Nat → Nat → Hp → Prop, (∃ m, W 0 m (upd H1 D (.lst []))) ∧ ∀ i m H, W i m H →
  ((Itz K a b).stop i H ∧ Q (.ref D) H) ∨ ((Itz K a b).go i H ∧ ∃ Nx : Hp → Prop, (∀ H', Nx H' → ∃ m', m' < m ∧ W (i + 1) m' H') ∧ ∀ x H', (Itz K a b).yld i H x H' → g x (wipe σ vs) H' fun σ2 H2 => wipe σ2 vs = wipe σ vs ∧ tt σ2 H2 fun b H3 =>
    if b = true then te σ2 H3 fun y H4 => ∃ acc, H4 D = some (.lst acc) ∧ acc.length < sizeLine ∧ Nx (upd H4 D (.lst (acc ++ [y]))) else Nx H3)
theorem g_lcz (h : ta σ H fun us H1 => LcZ K g tt te vs σ us H1 Q) : tLc (iZip K ta) g tt te vs σ H Q := h
theorem lcz_fun (F : Nat → V) (h1 : H a = some (.lst xs)) (h2 : H b = some (.lst ys)) (hl : xs.length = ys.length) (hz : xs.length ≤ 100000)
    (hs : ∀ (i : Nat) x y, xs[i]? = some x → ys[i]? = some y → ∀ T H1, Same H H1 → H1 T = some (.tup [x, y]) → ∀ R : Option V → Hp → Prop, (∀ H2, Same H1 H2 → R (some (F i)) H2) → LcT g tt te vs σ (.ref T) H1 R)
    (k : ∀ D H', Fr H D → Same H H' → H' D = some (.lst ((List.range xs.length).map F)) → Q (.ref D) H') : LcZ K g tt te vs σ [.ref a, .ref b] H Q := by
  refine ⟨a, b, xs, ys, rfl, SqL.of h1, SqL.of h2, fun D hD => lc_it (walk_zip (xs := xs) (ys := ys) (n := xs.length) (by omega)) (fun i H' => i ≤ xs.length ∧ Same H H' ∧ H' D = some (.lst ((List.range i).map F))) ⟨Nat.zero_le _, same_upd hD, upd_same⟩ (fun i H' _ q => ⟨SqL.of (q.2.1 _ _ h1), SqL.of (q.2.1 _ _ h2)⟩) ?_ ?_⟩
  · rintro i v H0 H1 hi ⟨_, sH, eD⟩ ⟨T, x, y, rfl, hT, rfl, hx, hy⟩
    have sT : Same H0 (upd H0 T (.tup [x, y])) := same_upd hT
    refine hs i x y hx hy T _ (sH.trans sT) upd_same (fun o H4 => match o with
      | some y => ∃ acc, H4 D = some (.lst acc) ∧ acc.length < sizeLine ∧ (i + 1 ≤ xs.length ∧ Same H (upd H4 D (.lst (acc ++ [y]))) ∧ (upd H4 D (.lst (acc ++ [y]))) D = some (.lst ((List.range (i + 1)).map F)))
      | none => i + 1 ≤ xs.length ∧ Same H H4 ∧ H4 D = some (.lst ((List.range (i + 1)).map F))) fun H2 s2 => ?_
    refine ⟨(List.range i).map F, s2 _ _ (sT _ _ eD), ?_, hi, fun c o e => ?_, ?_⟩
    · rw [List.length_map, List.length_range]
      exact Nat.lt_of_le_of_lt (by omega : _ ≤ 100000) (by decide)
    · rw [upd_ne (ne_of_none e hD)]
      exact s2 _ _ (sT _ _ (sH _ _ e))
    · rw [upd_same, List.range_succ, List.map_append]; rfl
  · rintro H1 ⟨_, sH, eD⟩
    exact k D H1 ⟨hD⟩ sH eD
end
section
variable {H H2 : Hp} {g : TG} {tt : TT} {te : TE} {vs : List Nat} {σ σ' σ2 : L2.St} {x : V} {R : Option V → Hp → Prop}
def LctR (tt : TT) (te : TE) (vs : List Nat) (σ : L2.St) (R : Option V → Hp → Prop) (σ2 : L2.St) (H2 : Hp) : Prop := wipe σ2 vs = wipe σ vs ∧ tt σ2 H2 fun b H3 => LcE R te b σ2 H3
theorem g_lctt (e : wipe σ vs = σ') (h : g x σ' H fun σ2 H2 => LctR tt te vs σ R σ2 H2) : LcT g tt te vs σ x H R := by
  subst e
  exact h
theorem lctr (e : wipe σ2 vs = wipe σ vs) (h : tt σ2 H2 fun b H3 => LcE R te b σ2 H3) : LctR tt te vs σ R σ2 H2 := ⟨e, h⟩
end
/-! ### integers in equal distances -/
def Prg (n : Int) (H : Hp) (v : V) (P : Int → Prop) : Prop := (v = .non ∧ ∀ x, ¬ P x) ∨ ∃ q f m, v = .ref q ∧ H q = some (.tup [.int f, .int m]) ∧ 1 ≤ m ∧ m ∣ n ∧ 0 ≤ f ∧ f < m ∧ ∀ x, P x ↔ x % m = f
theorem Prg.same {n : Int} {H H' : Hp} {v : V} {P : Int → Prop} (h : Prg n H v P) (s : Same H H') : Prg n H' v P := by
  rcases h with h | ⟨q, f, m, e, h, r⟩
  · exact .inl h
  · exact .inr ⟨q, f, m, e, s _ _ h, r⟩
theorem Prg.iff {n : Int} {H : Hp} {v : V} {P P' : Int → Prop} (h : Prg n H v P) (e : ∀ x, P' x ↔ P x) : Prg n H v P' := by
  rcases h with ⟨h, z⟩ | ⟨q, f, m, h1, h2, h3, h4, h5, h6, h7⟩
  · exact .inl ⟨h, fun x y => z x ((e x).mp y)⟩
  · exact .inr ⟨q, f, m, h1, h2, h3, h4, h5, h6, fun x => (e x).trans (h7 x)⟩
theorem Prg.of {n k : Int} {H : Hp} {v : V} {P : Int → Prop} (h : Prg k H v P) (d : k ∣ n) : Prg n H v P := by
  rcases h with h | ⟨q, f, m, h1, h2, h3, h4, r⟩
  · exact .inl h
  · exact .inr ⟨q, f, m, h1, h2, h3, Int.dvd_trans h4 d, r⟩
theorem quo_pos {n t : Int} (hn : 1 ≤ n) : 1 ≤ n / gcdZ t n ∧ n / gcdZ t n ∣ n ∧ n = gcdZ t n * (n / gcdZ t n) := by
  obtain ⟨m, hm⟩ := gcdZ_dr t n
  have g1 := gcdZ_pos (t := t) hn
  have e1 : n / gcdZ t n = m := by
    have : (gcdZ t n * m) / gcdZ t n = m := Int.mul_ediv_cancel_left _ (by omega)
    rw [← hm] at this
    exact this
  rw [e1]
  refine ⟨?_, ⟨gcdZ t n, by rw [Int.mul_comm]; exact hm⟩, hm⟩
  apply Classical.byContradiction
  intro z
  have : gcdZ t n * m ≤ 0 := Int.mul_nonpos_of_nonneg_of_nonpos (by omega) (by omega)
  omega
theorem lcm_quo {a b : Int} (ha : 1 ≤ a) (hb : 1 ≤ b) : lcmZ a b = a * (b / gcdZ a b) := by
  have g0 : 0 < Nat.gcd a.natAbs b.natAbs := Nat.gcd_pos_of_pos_right _ (by omega)
  have e : b / gcdZ a b = ((b.natAbs / Nat.gcd a.natAbs b.natAbs : Nat) : Int) := by
    unfold gcdZ
    rw [Int.natCast_ediv, Int.natAbs_of_nonneg (by omega)]
  rw [e]
  unfold lcmZ Nat.lcm
  rw [Nat.mul_div_assoc _ (Nat.gcd_dvd_right _ _), Int.natCast_mul, Int.natAbs_of_nonneg (by omega)]
theorem mod_iff {x m f : Int} (hm : 1 ≤ m) (f0 : 0 ≤ f) (f1 : f < m) : x % m = f ↔ m ∣ x - f := by
  constructor
  · intro h
    have := Int.emod_add_mul_ediv x m
    exact ⟨x / m, by omega⟩
  · rintro ⟨w, hw⟩
    have : x = f + m * w := by omega
    rw [this, Int.add_mul_emod_self_left, Int.emod_eq_of_lt f0 f1]
/-- what both of two tell -/
theorem met_iff {f1 m1 f2 m2 t x : Int} (h1 : 1 ≤ m1) (h2 : 1 ≤ m2) (a0 : 0 ≤ f1) (a1 : f1 < m1) (b0 : 0 ≤ f2) (b1 : f2 < m2) (t0 : 0 ≤ t) (t1 : t < m2 / gcdZ m1 m2) (ht : (m1 * t - (f2 - f1)) % m2 = 0) :
    (x % m1 = f1 ∧ x % m2 = f2) ↔ x % lcmZ m1 m2 = f1 + m1 * t := by
  obtain ⟨q1, q2, q3⟩ := quo_pos (t := m1) h2
  rw [lcm_quo h1 h2]
  have F0 : 0 ≤ f1 + m1 * t := by have := Int.mul_nonneg (show 0 ≤ m1 by omega) t0; omega
  have F1 : f1 + m1 * t < m1 * (m2 / gcdZ m1 m2) := by
    have : m1 * (t + 1) ≤ m1 * (m2 / gcdZ m1 m2) := Int.mul_le_mul_of_nonneg_left (by omega) (by omega)
    have e : m1 * (t + 1) = m1 * t + m1 := by grind
    omega
  have M1 : 1 ≤ m1 * (m2 / gcdZ m1 m2) := by have := Int.mul_le_mul h1 q1 (by omega) (by omega); omega
  have lin := lin_iff (b := m1) (L := f2 - f1) (n := m2) (x := t) h2 t0 t1 ht
  rw [mod_iff h1 a0 a1, mod_iff h2 b0 b1, mod_iff M1 F0 F1]
  constructor
  · rintro ⟨⟨w, hw⟩, d⟩
    have e : m1 * w - (f2 - f1) = x - f2 := by omega
    have := (lin w).mp (by rw [e]; exact Int.emod_eq_zero_of_dvd d)
    obtain ⟨u, hu⟩ := (mod_iff q1 t0 t1).mp this
    refine ⟨u, ?_⟩
    have e2 : w = t + m2 / gcdZ m1 m2 * u := by omega
    have e3 : x - (f1 + m1 * t) = m1 * w - m1 * t := by omega
    rw [e3, e2]
    grind
  · rintro ⟨u, hu⟩
    have e3 : x - f1 = m1 * (t + m2 / gcdZ m1 m2 * u) := by grind
    refine ⟨⟨_, e3⟩, ?_⟩
    have := (lin (t + m2 / gcdZ m1 m2 * u)).mpr (by rw [Int.add_mul_emod_self_left, Int.emod_eq_of_lt t0 t1])
    have e : m1 * (t + m2 / gcdZ m1 m2 * u) - (f2 - f1) = x - f2 := by omega
    rw [e] at this
    exact Int.dvd_of_emod_eq_zero this
theorem lcm_dvd {a b n : Int} (ha : 1 ≤ a) (hb : 1 ≤ b) (h1 : a ∣ n) (h2 : b ∣ n) : lcmZ a b ∣ n := by
  unfold lcmZ
  rw [← Int.natAbs_dvd_natAbs, Int.natAbs_natCast]
  exact Nat.lcm_dvd (Int.natAbs_dvd_natAbs.mpr h1) (Int.natAbs_dvd_natAbs.mpr h2)
theorem emod_dvq (x n : Int) : ∃ u, x % n = x + n * u := ⟨-(x / n), by have := Int.emod_add_mul_ediv x n; grind⟩
/-- two equations by n -/
def Sys (n a b w a' b' w' r c : Int) : Prop := n ∣ a * r + b * c - w ∧ n ∣ a' * r + b' * c - w'
theorem sys_mod {n a b w a' b' w' r c : Int} : Sys n (a % n) (b % n) (w % n) (a' % n) (b' % n) (w' % n) r c ↔ Sys n a b w a' b' w' r c := by
  have go : ∀ a b w : Int, n ∣ (a % n) * r + (b % n) * c - w % n ↔ n ∣ a * r + b * c - w := by
    intro a b w
    have e : a * r + b * c - w = ((a % n) * r + (b % n) * c - w % n) + n * ((a / n) * r + (b / n) * c - w / n) := by
      have h1 := Int.emod_add_mul_ediv a n
      have h2 := Int.emod_add_mul_ediv b n
      have h3 := Int.emod_add_mul_ediv w n
      grind
    rw [e]
    constructor
    · intro h; exact Int.dvd_add h ⟨_, rfl⟩
    · intro h
      have := Int.dvd_sub h (show n ∣ n * ((a / n) * r + (b / n) * c - w / n) from ⟨_, rfl⟩)
      rw [Int.add_sub_cancel] at this
      exact this
  unfold Sys
  rw [go, go]
theorem sys_step {n a b w a' b' w' r c k : Int} : Sys n a' b' w' ((a - k * a') % n) ((b - k * b') % n) ((w - k * w') % n) r c ↔ Sys n a b w a' b' w' r c := by
  have go : n ∣ ((a - k * a') % n) * r + ((b - k * b') % n) * c - (w - k * w') % n ↔ n ∣ (a - k * a') * r + (b - k * b') * c - (w - k * w') := by
    obtain ⟨x, hx⟩ := emod_dvq (a - k * a') n
    obtain ⟨y, hy⟩ := emod_dvq (b - k * b') n
    obtain ⟨z, hz⟩ := emod_dvq (w - k * w') n
    have e : ((a - k * a') % n) * r + ((b - k * b') % n) * c - (w - k * w') % n = ((a - k * a') * r + (b - k * b') * c - (w - k * w')) + n * (x * r + y * c - z) := by grind
    rw [e]
    constructor
    · intro h
      have := Int.dvd_sub h (show n ∣ n * (x * r + y * c - z) from ⟨_, rfl⟩)
      rw [Int.add_sub_cancel] at this
      exact this
    · intro h; exact Int.dvd_add h ⟨_, rfl⟩
  unfold Sys
  rw [go]
  constructor
  · rintro ⟨h1, h2⟩
    refine ⟨?_, h1⟩
    have e : a * r + b * c - w = ((a - k * a') * r + (b - k * b') * c - (w - k * w')) + k * (a' * r + b' * c - w') := by grind
    rw [e]
    exact Int.dvd_add h2 (Int.dvd_mul_of_dvd_right h1)
  · rintro ⟨h1, h2⟩
    refine ⟨h2, ?_⟩
    have e : (a - k * a') * r + (b - k * b') * c - (w - k * w') = (a * r + b * c - w) - k * (a' * r + b' * c - w') := by grind
    rw [e]
    exact Int.dvd_sub h1 (Int.dvd_mul_of_dvd_right h2)
/-- which rows have such a column, once the lower equation is free of it -/
theorem sys_rows {n a b w a' w' r : Int} (hn : 1 ≤ n) : (∃ c, Sys n a b w a' 0 w' r c) ↔ (a' * r - w') % n = 0 ∧ (a * r - w) % gcdZ b n = 0 := by
  constructor
  · rintro ⟨c, h1, h2⟩
    rw [Int.zero_mul, Int.add_zero] at h2
    refine ⟨Int.emod_eq_zero_of_dvd h2, Int.emod_eq_zero_of_dvd ?_⟩
    have d1 : gcdZ b n ∣ a * r + b * c - w := Int.dvd_trans (gcdZ_dr b n) h1
    have d2 : gcdZ b n ∣ b * c := Int.dvd_mul_of_dvd_left (gcdZ_dl b n)
    have := Int.dvd_sub d1 d2
    have e : a * r + b * c - w - b * c = a * r - w := by omega
    rw [e] at this
    exact this
  · rintro ⟨h1, h2⟩
    have h3 : (w - a * r) % gcdZ b n = 0 := by
      have := Int.dvd_neg.mpr (Int.dvd_of_emod_eq_zero h2)
      have e : -(a * r - w) = w - a * r := by omega
      rw [e] at this
      exact Int.emod_eq_zero_of_dvd this
    obtain ⟨c, _, _, hc⟩ := lin_ex hn h3
    refine ⟨c, ?_, ?_⟩
    · have e : a * r + b * c - w = b * c - (w - a * r) := by omega
      rw [e]; exact Int.dvd_of_emod_eq_zero hc
    · rw [Int.zero_mul, Int.add_zero]; exact Int.dvd_of_emod_eq_zero h1
end L3

set_option Elab.async false
set_option linter.all false
set_option maxRecDepth 100000
set_option maxHeartbeats 2000000
/-! An own __eq__ against a value of another kind; making inside a try; tuples in order. -/
namespace L3
open PySem PySem.Calls PyProof.Rows PySem.W
section
variable {prog : Program} {w : World} {A : Around} {E : Value → Shared → Prop} {s : Shared} {K : PySem.W.Frag} {x C f : Addr} {y tb : Value} {ox : Obj} {od : Option Obj}
theorem ob_neV {Q : Fin → Shared → Prop} (X : K.In s.heap) (I : InstAt s.heap x ox C od) (hs : findIn K (.ref C) "__eq__" = some (some (.ref f))) (hf : isFn K (.ref f) = true) (hu : A.units < cLine)
    (hcall : wpAny (model prog w) A (call (.ref f) [.ref x, y]) (fun v s' => ∃ b, v = .bool b ∧ Q (.done (.ret (.bool (!b)))) s') E s) :
    wpAny (model prog w) A (Builtin.«object.__ne__» ⟨[.ref x, y], []⟩) Q E s := by
  unfold Builtin.«object.__ne__»
  repeat (first
    | with_reducible refine wpAny_cRoomFor hu ?_
    | (refine wpAny_bind (m := callSpecialIfBound? (.ref x) (PySem.Str.ofString "__eq__") [y])
        (ifBound_K X I hs hf (wpAny_mono hcall (fun r s' hr => by
          obtain ⟨b, rfl, hq⟩ := hr
          repeat (first | exact hq | exact wpAny_pure hq | exact wpAny_truthy_bool hq | (refine wpAny_bind (m := truthy (.bool _)) (wpAny_truthy_bool ?_)) | wp_step)) fun _ _ e => e)))
    | wp_step)
theorem try_neV {Q : Option Value → Shared → Prop} (X : K.In s.heap) (I : InstAt s.heap x ox C od) (hs : findIn K (.ref C) "__eq__" = some (some (.ref f))) (hf : isFn K (.ref f) = true) (hn : findIn K (.ref C) "__ne__" = some (some (.builtin "object.__ne__")))
    (hsub : subIn K (.ref C) (.type "object") = some true) (hu : A.units + 1 < cLine)
    (hcall : wpAny (model prog w) A.in1 (call (.ref f) [.ref x, y]) (fun v s' => ∃ b, v = .bool b ∧ Q (some (.bool (!b))) s') E s) :
    wpAny (model prog w) A (tryCompare (.ref x) "__ne__" y) Q E s := by
  simp only [tryCompare, callSpecialIfBound?, bindSpecialIfBound?]
  have bnd : bindSpecial (.builtin "object.__ne__") (.ref x) = pure (.builtin "object.__ne__", [.ref x]) := PySem.F.cmp_object.ne.bind (.ref x)
  have body : wpAny (model prog w) A (call (.builtin "object.__ne__") [.ref x, y]) (fun v s' => ∃ b, v = .bool (!b) ∧ Q (some (.bool (!b))) s') E s :=
    wpAny_call (codeAny_call_builtin PySem.F.cmp_object.ne.plain PySem.F.cmpEntry_ne (chk_ne X I hsub (ob_neV (A := A.in1) X I hs hf hu (wpAny_mono hcall (fun v s' hv => by
      obtain ⟨b, rfl, hq⟩ := hv
      exact ⟨b, rfl, b, rfl, hq⟩) fun _ _ e => e))))
  refine wpAny_bind (wpAny_holding (wpAny_bind (wpAny_bind (wpAny_bind (I.type.here ((looks_findIn X hn).here ?_))))))
  simp only [bnd]
  refine wpAny_bind (wpAny_askSetting (wpAny_ite ?_))
  have fin : wpAny (model prog w) A (call (.builtin "object.__ne__") ([.ref x] ++ [y]) >>= fun v => pure (some v)) (fun a s' => wpAny (model prog w) A (match a with | some .notImplemented | none => pure none | some v => pure (some v)) Q E s') E s :=
    wpAny_bind (wpAny_mono body (fun v s' h' => by
      obtain ⟨b, rfl, hq⟩ := h'
      exact wpAny_pure (wpAny_pure hq)) fun _ _ h' => h')
  split
  · exact wpAny_bind (wpAny_pure (wpAny_pure (by exact fin)))
  · exact wpAny_tryCatch (wpAny_bind (wpAny_pure (wpAny_pure (by exact fin))))
theorem own_neV {Q : Value → Shared → Prop} (X : K.In s.heap) (I : InstAt s.heap x ox C od) (hb : Looks (model prog w) s.heap (typeOf y) tb) (hne : subIn K tb (.ref C) = some false) (hs : findIn K (.ref C) "__eq__" = some (some (.ref f))) (hf : isFn K (.ref f) = true)
    (hn : findIn K (.ref C) "__ne__" = some (some (.builtin "object.__ne__"))) (hsub : subIn K (.ref C) (.type "object") = some true) (hu : A.units + 1 < cLine)
    (hcall : wpAny (model prog w) A.in1 (call (.ref f) [.ref x, y]) (fun v s' => ∃ b, v = .bool b ∧ Q (.bool (!b)) s') E s) :
    wpAny (model prog w) A (compareOp .NotEq (.ref x) y) Q E s := by
  have last : wpAny (model prog w) A (tryCompare (.ref x) "__ne__" y) (fun r s' => ∃ b, r = some (.bool (!b)) ∧ Q (.bool (!b)) s') E s :=
    try_neV X I hs hf hn hsub hu (wpAny_mono hcall (fun v s' hv => by
      obtain ⟨b, rfl, hq⟩ := hv
      exact ⟨b, rfl, b, rfl, hq⟩) fun _ _ e => e)
  show wpAny (model prog w) A (richCompare .NotEq (.ref x) y) Q E s
  unfold richCompare
  simp only [oneThing_ref]
  refine wpAny_holding ?_
  refine wpAny_bind (wpAny_cRoomFor (Nat.lt_of_succ_lt hu) ?_)
  rw [cmpInfo_NotEq]
  dsimp only
  refine wpAny_bind (I.type.here (wpAny_bind (hb.here ?_)))
  split
  · refine wpAny_bind ((looks_subIn X hne).here ?_)
    simp only [Bool.false_eq_true, if_false]
    refine wpAny_bind (wpAny_mono last (fun r s' z => ?_) fun _ _ e => e)
    obtain ⟨b, rfl, hq⟩ := z
    exact wpAny_pure hq
  · refine wpAny_bind (wpAny_pure ?_)
    simp only [Bool.false_eq_true, if_false]
    refine wpAny_bind (wpAny_mono last (fun r s' z => ?_) fun _ _ e => e)
    obtain ⟨b, rfl, hq⟩ := z
    exact wpAny_pure hq
/-- a type's instance is none of the own class at B -/
theorem kit_other {B : Addr} (hd : hasDictIn K B = true) (ht : typeIn K (.ref B) = some (.type "type")) (hs : subIn K tb (.ref B) = some false) (hr : subIn K (.ref B) (.ref B) = some true) : kitOne K tb (.ref B) = some false := by
  obtain ⟨cd, hc, _⟩ := any_some hd
  have ne : ¬ ((tb == Value.ref B) = true) := fun z => by
    have e := beq_iff_eq.mp z
    subst e
    rw [hr] at hs
    cases hs
  have both : ((clsIn K B).isSome && typeIn K (.ref B) == some (.type "type")) = true := by rw [hc, ht] <;> rfl
  unfold kitOne
  rw [if_neg ne]
  show (if ((clsIn K B).isSome && typeIn K (.ref B) == some (.type "type")) = true then _ else _) = _
  rw [if_pos both, hs]
end
end L3
namespace L3
open PySem L2 PyProof.Rows
section
variable {X : Cx} {CX : CXT} {k : Nat} {C f : Addr} {fd : FuncData} {ps : List PySem.Str} {sp : Sp} {E : XK}
/-- x == y, y of another kind than x's class -/
def rOwnEqV (K : PySem.W.Frag) (C : Addr) (sp : Sp) (E : XK) : R2 := fun x y H Q => ∃ a dx fs t, x = .ref a ∧ H a = some (.ins C dx fs) ∧ TyX K H y t ∧ PySem.W.subIn K t (.ref C) = some false ∧ sp [.ref a, y] H Q E
def rOwnNeV (K : PySem.W.Frag) (C : Addr) (sp : Sp) (E : XK) : R2 := fun x y H Q => ∃ a dx fs t, x = .ref a ∧ H a = some (.ins C dx fs) ∧ TyX K H y t ∧ PySem.W.subIn K t (.ref C) = some false ∧ sp [.ref a, y] H (OwnB true Q) E
theorem op_ownEqV (hs : PySem.W.findIn X.K (.ref C) "__eq__" = some (some (.ref f))) (hf : PySem.W.isFn X.K (.ref f) = true)
    (F : FnOk X.prog X.w X.K X.mg X.base CX k f fd ps sp) (hr : Room k X.A) (hb : Binds X.K fd ps []) (hx : Passes CX X E) : OpR X (compareOp .Eq) (rOwnEqV X.K C sp E) := by
  intro pins s σ H x y v u Q I rx ry h
  obtain ⟨a, dx, fs, t, rfl, ea, ty, ns, q⟩ := h
  cases (show v = Value.ref a from rx)
  obtain ⟨ox, od, J⟩ := inst_of I ea
  obtain ⟨P, Z, p, _⟩ := kit_of I ry ty
  obtain ⟨m, hF⟩ := I.fr
  have nf : PySem.W.notFirst X.K C t = true := by unfold PySem.W.notFirst; rw [ns]; simp
  refine PySem.W.cmp_K (op := .Eq) (tb := t) hr.units0 hF I.ok.mod.kin J (Z.ty _ _ I.kIn p) nf hs hf ?_
  refine wpAny_mono (run_fn (us := [.ref a, u]) (vs := [.ref a, y]) F hr hb .nil hx I (.cons rfl (.cons ry .nil)) q) (fun r s' z => ?_) fun _ _ e => e
  obtain ⟨z', H', I', rz, qz⟩ := z
  exact SlX.cmpback rz ⟨z', H', I', rz, qz⟩
theorem op_ownNeV (hs : PySem.W.findIn X.K (.ref C) "__eq__" = some (some (.ref f))) (hf : PySem.W.isFn X.K (.ref f) = true) (hn : PySem.W.findIn X.K (.ref C) "__ne__" = some (some (.builtin "object.__ne__")))
    (hsub : PySem.W.subIn X.K (.ref C) (.type "object") = some true)
    (F : FnOk X.prog X.w X.K X.mg X.base CX k f fd ps sp) (hr : Room (k + 1) X.A) (hb : Binds X.K fd ps []) (hx : Passes CX X.nox E) : OpR X (compareOp .NotEq) (rOwnNeV X.K C sp E) := by
  intro pins s σ H x y v u Q I rx ry h
  obtain ⟨a, dx, fs, t, rfl, ea, ty, ns, q⟩ := h
  cases (show v = Value.ref a from rx)
  obtain ⟨ox, od, J⟩ := inst_of I ea
  obtain ⟨P, Z, p, _⟩ := kit_of I ry ty
  have hu : X.A.units + 1 < cLine := hu_of hr
  refine own_neV I.kIn J (Z.ty _ _ I.kIn p) ns hs hf hn hsub hu ?_
  have r2 : Vals [V.ref a, y] [Value.ref a, u] := .cons rfl (.cons ry .nil)
  have hl : ([Value.ref a, u] ++ ([] : List Value)).length = ps.length := by rw [← F.len _ _ _ _ q]; rfl
  refine wpAny_call (codeAny_mono (F.run X.A.in1 X.stack s H ⟨[.ref a, u], []⟩ [.ref a, u] [.ref a, y] _ E hr.in1 I.env0.in1 (by
    have := hb s [.ref a, u] I.kIn hl
    simpa using this) r2 q) fun r s' hq => ?_)
  cases r with
  | error e => exact False.elim (hx pins σ H s e s' (I.wish _) hq)
  | ok fl =>
    cases fl with
    | ret w' =>
      obtain ⟨z, H', I', rz, kb, ez, qz⟩ := I.after hq
      subst ez
      cases rz
      exact ⟨kb, rfl, .bl (!kb), H', I', rfl, qz⟩
    | next => exact False.elim hq
    | brk => exact False.elim hq
    | cont => exact False.elim hq
end
section
variable {K : PySem.W.Frag} {H : Hp} {Q : VK} {C a dx : Addr} {fs : List (PySem.Str × V)} {sp : Sp} {E : XK} {y : V} {t : Value}
theorem w_ownEqV (h1 : H a = some (.ins C dx fs)) (ty : TyX K H y t) (ns : PySem.W.subIn K t (.ref C) = some false) (h : sp [.ref a, y] H Q E) : rOwnEqV K C sp E (.ref a) y H Q := ⟨a, dx, fs, t, rfl, h1, ty, ns, h⟩
theorem w_ownNeV (h1 : H a = some (.ins C dx fs)) (ty : TyX K H y t) (ns : PySem.W.subIn K t (.ref C) = some false) (h : sp [.ref a, y] H (OwnB true Q) E) : rOwnNeV K C sp E (.ref a) y H Q := ⟨a, dx, fs, t, rfl, h1, ty, ns, h⟩
theorem isi_oth {c : V} {u : Value} (k : ClsV c u) (ty : TyX K H y t) (e : PySem.W.kitOne K t u = some false) (h : Q (.bl false) H) : rIsi K [y, c] H Q := ⟨_, _, _, _, false, rfl, k, ty, e, h⟩
theorem isi_oty {c : V} {u : Value} (k : ClsV c u) (ty : TyX K H y t) (e : PySem.W.kitOne K t u = some true) (h : Q (.bl true) H) : rIsi K [y, c] H Q := ⟨_, _, _, _, true, rfl, k, ty, e, h⟩
end
/-! making inside a try -/
section
variable {X : Cx} {CX : CXT} {k : Nat} {f C : Addr} {fd : FuncData} {ps : List PySem.Str} {sp : Sp} {E : L2.St → XK} {x : PySem.Str} {p pos : Pos} {e : Expr} {es : List Expr} {t : TA}
theorem run_makeS {pins : List (Addr × Obj)} {σ : L2.St} {H : Hp} {s : Shared} {Q : VK} {us : List Value} {vs : List V} (M : Mk X.K C f) (F : FnOk X.prog X.w X.K X.mg X.base CX k f fd ps sp) (hr : Room (k + 1) X.A) (hb : Binds X.K fd ps [])
    (hx : PassesAt CX X σ (E σ)) (I : Inv X pins σ H s) (r : Vals vs us)
    (h : ∀ a dx, H a = none → H dx = none → dx ≠ a → sp (.ref a :: vs) (upd (upd H dx (.own a)) a (.ins C dx [])) (fun v H2 => v = .non ∧ Q (.ref a) H2) (E σ)) :
    wpAny (model X.prog X.w) X.A (call (.ref C) us) (EP X pins σ Q) X.xe s := by
  have hq := h (s.heap.objs.size + 1) s.heap.objs.size (I.hok.fresh (Nat.le_succ _)) (I.hok.fresh (Nat.le_refl _)) (Nat.ne_of_lt (Nat.lt_succ_self _))
  have made := Inv.made (C := C) I
  have rel : Vals (V.ref (s.heap.objs.size + 1) :: vs) (Value.ref (s.heap.objs.size + 1) :: us) := .cons rfl r
  have len : (Value.ref (s.heap.objs.size + 1) :: us ++ []).length = ps.length := by
    have e := rel.length
    rw [F.len _ _ _ _ hq] at e
    rw [List.append_nil]
    exact e.symm
  have bd := hb _ (Value.ref (s.heap.objs.size + 1) :: us) made.kIn len
  rw [List.append_nil] at bd
  refine wpAny_call (make_map (f := f) I.kIn M.makes M.init (beq_iff_eq.mp M.fn) (codeAny_mono (F.run _ X.stack _ _ ⟨Value.ref (s.heap.objs.size + 1) :: us, []⟩ (Value.ref (s.heap.objs.size + 1) :: us) _ _ (E σ) (hr.make C us [])
    (made.env0.make C us []) bd rel hq) fun r s' out => ?_))
  cases r with
  | error e => exact hx pins _ _ e s' made out
  | ok fl =>
    cases fl with
    | ret u =>
      obtain ⟨v, H', I3, rv, ev, q3⟩ := made.after out
      subst ev
      exact ⟨rv, ⟨V.ref (s.heap.objs.size + 1), H', I3, rfl, q3⟩⟩
    | next => exact False.elim out
    | brk => exact False.elim out
    | cont => exact False.elim out
def tMakeS (C : Addr) (sp : Sp) (E : L2.St → XK) (tas : TA) : TE := fun σ H Q => tas σ H fun vs H1 => MakeR C sp (E σ) vs H1 Q
theorem pe_makeS (M : Mk X.K C f) (F : FnOk X.prog X.w X.K X.mg X.base CX k f fd ps sp) (hr : Room (k + 1) X.A) (hg : Gl X x) (hm : X.mg x = some (.ref C)) (hb : Binds X.K fd ps []) (hx : ∀ σ, PassesAt CX X σ (E σ))
    (ha : PA X (e :: es) t) (hdb : (x == ("__debug__" : PySem.Str)) = false := by decide) (he : starEach (e :: es) X.env = (false, eval e X.env) :: starEach es X.env := by rfl) (hpl : (backTo pos (starEach es X.env)).any (·.1) = false := by rfl) :
    PE X (.Call (.Name x p) (e :: es) [] pos) (tMakeS C sp E t) := by
  refine ⟨fun pins s σ H Q I h => ?_⟩
  refine wpAny_Call_Name_kw (ld_glob I hg hm ?_ hdb)
  refine PySem.W.callWith_K (h₀ := X.base) I.ok.mod.kin M.kp (thn (ha.run pos pins s σ H _ I h) fun us s1 got => ?_) he hpl
  obtain ⟨vs, H1, I1, r, q⟩ := got
  exact ⟨I1.kIn, run_makeS M F hr hb (hx σ) I1 r q⟩
theorem g_makeS {σ : L2.St} {H : Hp} {Q : VK} {tas : TA} (h : tas σ H fun vs H1 => MakeR C sp (E σ) vs H1 Q) : tMakeS C sp E tas σ H Q := h
end
end L3

set_option Elab.async false
set_option linter.all false
set_option maxRecDepth 100000
set_option maxHeartbeats 2000000
namespace L3
open PySem L2 PyProof.Rows
section
variable {H : Hp} {Q : VK} {g : TG} {tt : TT} {te : TE} {vs : List Nat} {σ : L2.St}
/-- a comprehension over a range whose items are new objects -/
theorem lcr1_objs {j : Int} (f : Nat → HO) (b1 : -(2 ^ 62) ≤ j) (hz : j ≤ 100000)
    (hs : ∀ i : Nat, (i : Int) < j → ∀ H1, Same H H1 → ∀ Z : Option V → Hp → Prop, (∀ q H2, Fr H1 q → Same H1 H2 → H2 q = some (f i) → Z (some (.ref q)) H2) → LcT g tt te vs σ (.int i) H1 Z)
    (k : ∀ D (qs : List Addr) H', Fr H D → Same H H' → qs.length = j.toNat → qs.Nodup → D ∉ qs → (∀ q ∈ qs, Fr H q) → (∀ (i : Nat) q, qs[i]? = some q → H' q = some (f i)) → H' D = some (.lst (qs.map V.ref)) → Q (.ref D) H') : LcR1 g tt te vs σ [.int j] H Q := by
  refine ⟨j, rfl, b1, by omega, fun D hD => lc_range (fun i H' => i ≤ j.toNat ∧ Same H H' ∧ ∃ qs : List Addr, qs.length = i ∧ qs.Nodup ∧ D ∉ qs ∧ (∀ q ∈ qs, Fr H q) ∧ (∀ (k : Nat) q, qs[k]? = some q → H' q = some (f k)) ∧ H' D = some (.lst (qs.map V.ref)))
    ⟨Nat.zero_le _, same_upd hD, [], rfl, List.nodup_nil, List.not_mem_nil, fun q h => absurd h List.not_mem_nil, fun k q h => by simp at h, upd_same⟩ ?_ ?_⟩
  · rintro i H1 hlt ⟨hi, sH, qs, hl, hn, hDq, hf, hq, eD⟩
    rw [Int.zero_add]
    refine hs i (by omega) H1 sH (fun o H4 => match o with
      | some y => ∃ acc, H4 D = some (.lst acc) ∧ acc.length < sizeLine ∧ (i + 1 ≤ j.toNat ∧ Same H (upd H4 D (.lst (acc ++ [y]))) ∧ ∃ qs : List Addr, qs.length = i + 1 ∧ qs.Nodup ∧ D ∉ qs ∧ (∀ q ∈ qs, Fr H q) ∧ (∀ (k : Nat) q, qs[k]? = some q → (upd H4 D (.lst (acc ++ [y]))) q = some (f k)) ∧ (upd H4 D (.lst (acc ++ [y]))) D = some (.lst (qs.map V.ref)))
      | none => i + 1 ≤ j.toNat ∧ Same H H4 ∧ ∃ qs : List Addr, qs.length = i + 1 ∧ qs.Nodup ∧ D ∉ qs ∧ (∀ q ∈ qs, Fr H q) ∧ (∀ (k : Nat) q, qs[k]? = some q → H4 q = some (f k)) ∧ H4 D = some (.lst (qs.map V.ref))) fun q H2 fq s2 hq2 => ?_
    have qD : q ≠ D := ne_new fq eD
    have qn : q ∉ qs := fun m => by
      obtain ⟨n, hn2, e⟩ := List.getElem_of_mem m
      have e2 : qs[n]? = some q := by rw [List.getElem?_eq_getElem hn2, e]
      exact ne_new fq (hq n q e2) rfl
    refine ⟨qs.map V.ref, s2 _ _ eD, ?_, hlt, fun b o e => ?_, qs ++ [q], by rw [List.length_append, hl]; rfl, ?_, ?_, ?_, ?_, by rw [upd_same, List.map_append]; rfl⟩
    · rw [List.length_map, hl]
      exact Nat.lt_of_le_of_lt (by omega : _ ≤ 100000) (by decide)
    · rw [upd_ne (ne_of_none e hD)]
      exact s2 _ _ (sH _ _ e)
    · rw [List.nodup_append]
      exact ⟨hn, by simp, fun a ha b hb => by simp at hb; subst hb; intro e; subst e; exact qn ha⟩
    · intro m
      rcases List.mem_append.mp m with m | m
      · exact hDq m
      · simp at m; exact qD m.symm
    · intro q' m
      rcases List.mem_append.mp m with m | m
      · exact hf q' m
      · simp at m; subst m; exact fq.back sH
    · intro n q' e
      have ne : q' ≠ D := fun z => by
        subst z
        rcases List.mem_append.mp (List.mem_of_getElem? e) with m | m
        · exact hDq m
        · simp at m; exact qD m.symm
      rw [upd_ne ne]
      by_cases hlt2 : n < qs.length
      · rw [List.getElem?_append_left hlt2] at e
        exact s2 _ _ (hq n q' e)
      · rw [List.getElem?_append_right (by omega)] at e
        have hn0 : n - qs.length = 0 := by
          have := (List.getElem?_eq_some_iff.mp e).1
          simp at this
          omega
        rw [hn0] at e
        simp at e
        subst e
        have : n = i := by omega
        subst this
        exact hq2
  · rintro H1 ⟨_, sH, qs, hl, hn, hDq, hf, hq, eD⟩
    exact k D qs H1 ⟨hD⟩ sH hl hn hDq hf hq eD
/-- the same over a list -/
theorem lc_objs {xs : List V} {a : Addr} {K : PySem.W.Frag} (f : Nat → HO) (h1 : SqL K H a xs) (hz : xs.length ≤ 100000)
    (hs : ∀ (i : Nat) x, xs[i]? = some x → ∀ H1, Same H H1 → ∀ Z : Option V → Hp → Prop, (∀ q H2, Fr H1 q → Same H1 H2 → H2 q = some (f i) → Z (some (.ref q)) H2) → LcT g tt te vs σ x H1 Z)
    (k : ∀ D (qs : List Addr) H', Fr H D → Same H H' → qs.length = xs.length → qs.Nodup → D ∉ qs → (∀ q ∈ qs, Fr H q) → (∀ (i : Nat) q, qs[i]? = some q → H' q = some (f i)) → H' D = some (.lst (qs.map V.ref)) → Q (.ref D) H') : LcL K g tt te vs σ (.ref a) H Q := by
  refine ⟨a, rfl, ⟨xs, h1⟩, fun D hD => lc_list (xs := xs) (fun i H' => i ≤ xs.length ∧ Same H H' ∧ ∃ qs : List Addr, qs.length = i ∧ qs.Nodup ∧ D ∉ qs ∧ (∀ q ∈ qs, Fr H q) ∧ (∀ (k : Nat) q, qs[k]? = some q → H' q = some (f k)) ∧ H' D = some (.lst (qs.map V.ref)))
    ⟨Nat.zero_le _, same_upd hD, [], rfl, List.nodup_nil, List.not_mem_nil, fun q h => absurd h List.not_mem_nil, fun k q h => by simp at h, upd_same⟩ (fun i H' _ q => q.2.1.seq h1) ?_ ?_⟩
  · rintro i x H1 hx ⟨hi, sH, qs, hl, hn, hDq, hf, hq, eD⟩
    have hlt : i < xs.length := (List.getElem?_eq_some_iff.mp hx).1
    refine hs i x hx H1 sH (fun o H4 => match o with
      | some y => ∃ acc, H4 D = some (.lst acc) ∧ acc.length < sizeLine ∧ (i + 1 ≤ xs.length ∧ Same H (upd H4 D (.lst (acc ++ [y]))) ∧ ∃ qs : List Addr, qs.length = i + 1 ∧ qs.Nodup ∧ D ∉ qs ∧ (∀ q ∈ qs, Fr H q) ∧ (∀ (k : Nat) q, qs[k]? = some q → (upd H4 D (.lst (acc ++ [y]))) q = some (f k)) ∧ (upd H4 D (.lst (acc ++ [y]))) D = some (.lst (qs.map V.ref)))
      | none => i + 1 ≤ xs.length ∧ Same H H4 ∧ ∃ qs : List Addr, qs.length = i + 1 ∧ qs.Nodup ∧ D ∉ qs ∧ (∀ q ∈ qs, Fr H q) ∧ (∀ (k : Nat) q, qs[k]? = some q → H4 q = some (f k)) ∧ H4 D = some (.lst (qs.map V.ref))) fun q H2 fq s2 hq2 => ?_
    have qD : q ≠ D := ne_new fq eD
    have qn : q ∉ qs := fun m => by
      obtain ⟨n, hn2, e⟩ := List.getElem_of_mem m
      have e2 : qs[n]? = some q := by rw [List.getElem?_eq_getElem hn2, e]
      exact ne_new fq (hq n q e2) rfl
    refine ⟨qs.map V.ref, s2 _ _ eD, ?_, hlt, fun b o e => ?_, qs ++ [q], by rw [List.length_append, hl]; rfl, ?_, ?_, ?_, ?_, by rw [upd_same, List.map_append]; rfl⟩
    · rw [List.length_map, hl]
      exact Nat.lt_of_le_of_lt (by omega : _ ≤ 100000) (by decide)
    · rw [upd_ne (ne_of_none e hD)]
      exact s2 _ _ (sH _ _ e)
    · rw [List.nodup_append]
      exact ⟨hn, by simp, fun a ha b hb => by simp at hb; subst hb; intro e; subst e; exact qn ha⟩
    · intro m
      rcases List.mem_append.mp m with m | m
      · exact hDq m
      · simp at m; exact qD m.symm
    · intro q' m
      rcases List.mem_append.mp m with m | m
      · exact hf q' m
      · simp at m; subst m; exact fq.back sH
    · intro n q' e
      have ne : q' ≠ D := fun z => by
        subst z
        rcases List.mem_append.mp (List.mem_of_getElem? e) with m | m
        · exact hDq m
        · simp at m; exact qD m.symm
      rw [upd_ne ne]
      by_cases hlt2 : n < qs.length
      · rw [List.getElem?_append_left hlt2] at e
        exact s2 _ _ (hq n q' e)
      · rw [List.getElem?_append_right (by omega)] at e
        have hn0 : n - qs.length = 0 := by
          have := (List.getElem?_eq_some_iff.mp e).1
          simp at this
          omega
        rw [hn0] at e
        simp at e
        subst e
        have : n = i := by omega
        subst this
        exact hq2
  · rintro H1 ⟨_, sH, qs, hl, hn, hDq, hf, hq, eD⟩
    exact k D qs H1 ⟨hD⟩ sH hl hn hDq hf hq eD
end
end L3

set_option Elab.async false
set_option linter.all false
set_option maxRecDepth 100000
set_option maxHeartbeats 2000000
/-! texts: their lengths, ints as texts, f-strings, joins; an own operator with an int. -/
namespace L3
open PySem L2 PyProof.Rows
/-- an int's text -/
def tx (i : Int) : PySem.Str := PySem.Str.ofString (toString i)
def TL (n : Nat) (s : PySem.Str) : Prop := s.length ≤ n
theorem TL.app {a b : Nat} {x y : PySem.Str} (ha : TL a x) (hb : TL b y) : TL (a + b) (x ++ y) := by
  unfold TL at *
  rw [strLen_append]
  omega
theorem TL.mono {a b : Nat} {x : PySem.Str} (ha : TL a x) (h : a ≤ b) : TL b x := Nat.le_trans ha h
theorem Sz.log {n : Nat} {i : Int} (h : Sz n i) (hn : 0 < n) : i.natAbs.log2 < n := by
  by_cases z : i.natAbs = 0
  · rw [z]; simpa using hn
  · exact (Nat.log2_lt z).mpr h
theorem TL.int {i : Int} (h : Sz 1900 i) : TL 1901 (tx i) := by
  unfold TL tx
  rw [PySem.ofString_length]
  exact int_text_length_le (by decide) (h.log (by decide))
theorem TL.empty : TL 0 PySem.Str.empty := Nat.le_of_eq rfl
section
variable {H : Hp} {Q : VK} {i : Int} {x y acc : PySem.Str} {a b : Nat} {σ : L2.St} {te : TE} {ts : List TE}
def rStr1 : List V → Hp → VK → Prop := fun xs H Q => ∃ i, xs = [.int i] ∧ i.natAbs.log2 < 1920 ∧ Q (.str (tx i)) H
theorem c_str1 {X : Cx} : CallR X (.type "str") rStr1 := call_str_int
theorem b_str (h : Sz 1900 i) (k : Q (.str (tx i)) H) : rStr1 [.int i] H Q := ⟨i, rfl, Nat.lt_of_lt_of_le (h.log (by decide)) (by decide), k⟩
theorem o_adds (ha : TL a x) (hb : TL b y) (h : a + b ≤ 16777216) (k : Q (.str (x ++ y)) H) : rAddS (.str x) (.str y) H Q := ⟨x, y, rfl, rfl, by unfold TL at ha hb; rw [sizeLine_eq]; omega, k⟩
def FmtR (x : V) (H : Hp) (Q : VK) : Prop := (∃ y : PySem.Str, x = .str y ∧ y.length ≤ sizeLine ∧ Q (.str y) H) ∨ ∃ i : Int, x = .int i ∧ i.natAbs.log2 < 1920 ∧ Q (.str (tx i)) H
theorem g_fmt (h : te σ H fun x H1 => FmtR x H1 Q) : tFmt te σ H Q := h
theorem fmt_int (h : Sz 1900 i) (k : Q (.str (tx i)) H) : FmtR (.int i) H Q := .inr ⟨i, rfl, Nat.lt_of_lt_of_le (h.log (by decide)) (by decide), k⟩
def JsR (ts : List TE) (acc : PySem.Str) (σ : L2.St) (x : V) (H : Hp) (Q : PySem.Str → Hp → Prop) : Prop := ∃ y : PySem.Str, x = .str y ∧ (acc ++ y).length ≤ sizeLine ∧ tJs ts (acc ++ y) σ H Q
def tFs (ts : List TE) : TE := fun σ H Q => tJs ts PySem.Str.empty σ H fun out H1 => Q (.str out) H1
theorem pe_fs {X : Cx} {v1 v2 : Expr} {rest : List Expr} {ts : List TE} {pos : Pos} (h : PJ X (v1 :: v2 :: rest) ts) : PE X (.JoinedStr (v1 :: v2 :: rest) pos) (tFs ts) := pe_joined h
theorem g_fs (h : tJs ts PySem.Str.empty σ H fun out H1 => Q (.str out) H1) : tFs ts σ H Q := h
theorem js_nil {Q : PySem.Str → Hp → Prop} (h : Q acc H) : tJs [] acc σ H Q := h
theorem js_cons {Q : PySem.Str → Hp → Prop} (h : te σ H fun x H1 => JsR ts acc σ x H1 Q) : tJs (te :: ts) acc σ H Q := h
theorem js_at {Q : PySem.Str → Hp → Prop} (ha : TL a acc) (hb : TL b y) (h : a + b ≤ 16777216) (k : tJs ts (acc ++ y) σ H Q) : JsR ts acc σ (.str y) H Q := ⟨y, rfl, by have := TL.app ha hb; unfold TL at this; rw [sizeLine_eq]; omega, k⟩
def M1R (r : V → List V → Hp → VK → Prop) (te : TE) (σ : L2.St) (x : V) (H : Hp) (Q : VK) : Prop := (∃ a, x = .str a) ∧ te σ H fun y H2 => r x [y] H2 Q
theorem g_m1 {r : V → List V → Hp → VK → Prop} {to : TE} (h : to σ H fun x H1 => M1R r te σ x H1 Q) : tM1 r to te σ H Q := h
theorem m1_at {r : V → List V → Hp → VK → Prop} (h : te σ H fun y H2 => r (.str x) [y] H2 Q) : M1R r te σ (.str x) H Q := ⟨⟨x, rfl⟩, h⟩
def rJoin (K : PySem.W.Frag) : V → List V → Hp → VK → Prop := fun x xs H Q => ∃ a p, ∃ ys : List PySem.Str, x = .str a ∧ xs = [.ref p] ∧ (SqL K H p (ys.map V.str) ∨ SqT K H p (ys.map V.str)) ∧
    (ys.map (·.length)).sum + ys.length * a.length ≤ 16777216 ∧ Q (.str (Txt.join a ys)) H
theorem pe_joinK {X : Cx} {K : PySem.W.Frag} {o e : Expr} {to te : TE} {apos pos : Pos} (hK : X.K = K) (ho : PE X o to) (he : PE X e te) (hs : starEach [e] X.env = [(false, eval e X.env)] := by rfl) (hbase : attributeBase o "join" X.env (eval o X.env) = eval o X.env := by rfl) (hline : (apos.endLine == pos.line) = true := by rfl) :
    PE X (.Call (.Attribute o "join" apos) [e] [] pos) (tM1 (rJoin K) to te) := by
  subst hK
  exact pe_join ho he hs hbase hline
theorem o_join {K : PySem.W.Frag} {p : Addr} {xs : List V} {ys : List PySem.Str} (h1 : H p = some (.lst xs)) (e : xs = ys.map V.str) (hc : (ys.map (·.length)).sum + ys.length * x.length ≤ 16777216) (k : Q (.str (Txt.join x ys)) H) : rJoin K (.str x) [.ref p] H Q := ⟨x, p, ys, rfl, rfl, .inl (SqL.of (e ▸ h1)), hc, k⟩
theorem o_eqs (k : Q (.bl (decide (x = y))) H) : rEq (.str x) (.str y) H Q := ⟨rfl, by
  have e : decide (V.str x = V.str y) = decide (x = y) := by by_cases z : x = y <;> simp [z]
  rw [e]; exact k⟩
theorem o_nes (k : Q (.bl (!decide (x = y))) H) : rNe (.str x) (.str y) H Q := ⟨rfl, by
  have e : decide (V.str x = V.str y) = decide (x = y) := by by_cases z : x = y <;> simp [z]
  rw [e]; exact k⟩
end
/-! own operators with an int -/
section
variable {X : Cx} {CX : CXT} {k : Nat} {C f : Addr} {fd : FuncData} {ps : List PySem.Str} {sp : Sp} {E : XK}
def rOwnI (C : Addr) (sp : Sp) (E : XK) : R2 := fun x y H Q => ∃ a dx fs j, x = .ref a ∧ y = .int j ∧ H a = some (.ins C dx fs) ∧ sp [.ref a, .int j] H Q E
/-- what is to be known of an own operator with an int on its right -/
structure OwnI (K : PySem.W.Frag) (C : Addr) (m rm : PySem.Str) : Prop where
  ex : ∃ fo ro rc, PySem.W.findIn K (.ref C) rm = some rc ∧ (rc = none ∨ ∃ g : Addr, rc = some (.ref g)) ∧ PySem.W.findIn K (.type "int") m = some fo ∧ PySem.W.findIn K (.type "int") rm = some ro ∧ PySem.W.subIn K (.type "int") (.ref C) = some false
theorem op_ownI {op : Operator} (o : OwnI X.K C (PySem.dunder op.info.2) (PySem.dunderR op.info.2)) (hc : PySem.W.selfFirst X.K C = true) (hs : PySem.W.findIn X.K (.ref C) (PySem.dunder op.info.2) = some (some (.ref f))) (hf : PySem.W.isFn X.K (.ref f) = true)
    (F : FnOk X.prog X.w X.K X.mg X.base CX k f fd ps sp) (hr : Room k X.A) (hb : Binds X.K fd ps []) (hx : Passes CX X E) : OpR X (binaryOp op) (rOwnI C sp E) := by
  intro pins s σ H x y v u Q I rx ry h
  obtain ⟨a, dx, fs, j, rfl, rfl, ea, q⟩ := h
  obtain ⟨fo, ro, rc, e1, e2, e3, e4, e5⟩ := o.ex
  cases (show v = Value.ref a from rx)
  obtain ⟨t, ht⟩ := (show ∃ t, u = Value.int j t from ry)
  subst ht
  obtain ⟨ox, od, J⟩ := inst_of I ea
  obtain ⟨m, hF⟩ := I.fr
  refine PySem.W.ksp_binT (T := "int") hF I.ok.mod.kin J rfl hc hs hf e1 e2 e3 e4 e5 ?_
  refine wpAny_mono (run_fn (us := [.ref a, .int j t]) (vs := [.ref a, .int j]) F hr hb .nil hx I (.cons rfl (.cons ⟨t, rfl⟩ .nil)) q) (fun r s' z => ?_) fun _ _ e => e
  obtain ⟨z', H', I', rz, qz⟩ := z
  exact SlX.cmpback rz ⟨z', H', I', rz, qz⟩
theorem w_ownI {H : Hp} {Q : VK} {a dx : Addr} {fs : List (PySem.Str × V)} {j : Int} (h1 : H a = some (.ins C dx fs)) (h : sp [.ref a, .int j] H Q E) : rOwnI C sp E (.ref a) (.int j) H Q := ⟨a, dx, fs, j, rfl, rfl, h1, h⟩
end
/-! joins, text by text -/
theorem join_snoc (sep a : PySem.Str) (l : List PySem.Str) : Txt.join sep (l ++ [a]) = if l = [] then a else Txt.join sep l ++ sep ++ a := by
  have e : ∀ ys, Txt.join sep ys = PySem.Str.join sep ys := fun ys => StrLaws.glued_eq_join sep ys
  rw [e, e]
  exact PyProof.Rows.FinIter.join_snoc sep a l
/-! rows of ints -/
/-- lists of ints stand at the addresses -/
inductive Rows (H : Hp) : List Addr → List (List Int) → Prop
  | nil : Rows H [] []
  | cons {q : Addr} {ns : List Int} {qs : List Addr} {nss : List (List Int)} (h : H q = some (.lst (ns.map V.int))) (r : Rows H qs nss) : Rows H (q :: qs) (ns :: nss)
theorem Rows.len {H : Hp} : ∀ {qs : List Addr} {nss : List (List Int)}, Rows H qs nss → qs.length = nss.length
  | _, _, .nil => rfl
  | _, _, .cons _ r => by rw [List.length_cons, List.length_cons, r.len]
theorem Rows.imp {H H' : Hp} : ∀ {qs : List Addr} {nss : List (List Int)}, Rows H qs nss → (∀ q ∈ qs, ∀ o, H q = some o → H' q = some o) → Rows H' qs nss
  | _, _, .nil, _ => .nil
  | _, _, .cons h r, f => .cons (f _ List.mem_cons_self _ h) (r.imp fun q m => f q (List.mem_cons_of_mem _ m))
theorem Rows.same {H H' : Hp} {qs : List Addr} {nss : List (List Int)} (r : Rows H qs nss) (s : Same H H') : Rows H' qs nss := r.imp fun _ _ _ h => s _ _ h
theorem Rows.snoc {H : Hp} {q : Addr} {ns : List Int} (h : H q = some (.lst (ns.map V.int))) : ∀ {qs : List Addr} {nss : List (List Int)}, Rows H qs nss → Rows H (qs ++ [q]) (nss ++ [ns])
  | _, _, .nil => .cons h .nil
  | _, _, .cons h' r => .cons h' (r.snoc h)
theorem Rows.at_ {H : Hp} : ∀ {qs : List Addr} {nss : List (List Int)}, Rows H qs nss → ∀ {i : Nat} {q : Addr}, qs[i]? = some q → ∃ ns, nss[i]? = some ns ∧ H q = some (.lst (ns.map V.int))
  | _, _, .nil, i, q, h => by simp at h
  | _, _, .cons h' r, 0, q, h => by
    simp only [List.getElem?_cons_zero, Option.some.injEq] at h
    subst h
    exact ⟨_, rfl, h'⟩
  | _, _, .cons h' r, i + 1, q, h => by
    rw [List.getElem?_cons_succ] at h ⊢
    exact r.at_ h
theorem rows_dp {K : PySem.W.Frag} {H : Hp} : ∀ {qs : List Addr} {nss : List (List Int)}, Rows H qs nss → DpAll K H (qs.map V.ref) (nss.map fun ns => PyData.list (ns.map PyData.int))
  | _, _, .nil => .nil
  | _, _, .cons h r => .cons (.lst (SqL.of h) (dp_ints _)) (rows_dp r)
theorem lay_rows : ∀ nss : List (List Int), PyData.canLayAll0 (nss.map fun ns => PyData.list (ns.map PyData.int)) = true
  | [] => by simp [PyData.canLayAll0]
  | ns :: nss => by simp [PyData.canLayAll0, PyData.canLay0, lay_rows nss, lay_ints ns]
theorem depth_rows : ∀ nss : List (List Int), PyData.depthAll (nss.map fun ns => PyData.list (ns.map PyData.int)) ≤ 2
  | [] => by simp [PyData.depthAll]
  | ns :: nss => by
    have h1 := depth_rows nss
    have h2 := depth_ints ns
    simp only [List.map_cons, PyData.depthAll, PyData.depth]
    omega
theorem shaped_rows (nss : List (List Int)) : SeqAt.shaped (.list (nss.map fun ns => PyData.list (ns.map PyData.int))) = true := by
  have h1 := depth_rows nss
  have h2 : PyData.depth (.list (nss.map fun ns => PyData.list (ns.map PyData.int))) ≤ 64 := by
    simp only [PyData.depth]
    omega
  show (PyData.canLay0 (.list (nss.map fun ns => PyData.list (ns.map PyData.int))) && decide (PyData.depth (.list (nss.map fun ns => PyData.list (ns.map PyData.int))) ≤ 64)) = true
  rw [Bool.and_eq_true]
  exact ⟨by simp only [PyData.canLay0]; exact lay_rows nss, decide_eq_true h2⟩
def rowTx (ns : List Int) : PySem.Str := Txt.join " " (ns.map tx)
def rowsTx (nss : List (List Int)) : PySem.Str := Txt.join "; " (nss.map rowTx)
theorem join_len (sep : PySem.Str) : ∀ l : List PySem.Str, (Txt.join sep l).length ≤ (l.map (·.length)).sum + l.length * sep.length
  | [] => Nat.zero_le _
  | a :: l => by
    have e : Txt.join sep (a :: l) = PySem.Str.join sep (a :: l) := StrLaws.glued_eq_join sep _
    rw [e, PyProof.Rows.len_join_cons, List.length_cons, Nat.add_mul]
    omega
theorem sum_le {n : Nat} : ∀ l : List PySem.Str, (∀ x ∈ l, x.length ≤ n) → (l.map (·.length)).sum ≤ l.length * n
  | [], _ => Nat.zero_le _
  | a :: l, h => by
    have h1 := sum_le l fun x m => h x (List.mem_cons_of_mem _ m)
    have h2 := h a List.mem_cons_self
    rw [List.map_cons, List.sum_cons, List.length_cons, Nat.add_mul]
    omega
theorem tx_le {i : Int} (h : Sz 1900 i) : (tx i).length ≤ 1901 := TL.int h
theorem row_cost {ns : List Int} (hl : ns.length ≤ 40) (hb : ∀ z ∈ ns, Sz 1900 z) : ((ns.map tx).map (·.length)).sum + (ns.map tx).length * (" " : PySem.Str).length ≤ 77000 := by
  have h1 := sum_le (n := 1901) (ns.map tx) (fun x m => by obtain ⟨z, hz, rfl⟩ := List.mem_map.mp m; exact tx_le (hb z hz))
  rw [List.length_map] at h1 ⊢
  have e : (" " : PySem.Str).length = 1 := by decide +kernel
  have : ns.length * 1901 ≤ 40 * 1901 := Nat.mul_le_mul_right _ hl
  rw [e]
  omega
theorem row_le {ns : List Int} (hl : ns.length ≤ 40) (hb : ∀ z ∈ ns, Sz 1900 z) : (rowTx ns).length ≤ 77000 := Nat.le_trans (join_len _ _) (row_cost hl hb)
def Fine (nss : List (List Int)) : Prop := nss.length ≤ 40 ∧ ∀ ns ∈ nss, ns.length ≤ 40 ∧ 1 ≤ ns.length ∧ ∀ z ∈ ns, Sz 1900 z
theorem rows_cost {nss : List (List Int)} (h : Fine nss) : ((nss.map rowTx).map (·.length)).sum + (nss.map rowTx).length * ("; " : PySem.Str).length ≤ 3100000 := by
  have h1 := sum_le (n := 77000) (nss.map rowTx) (fun x m => by obtain ⟨z, hz, rfl⟩ := List.mem_map.mp m; exact row_le (h.2 z hz).1 (h.2 z hz).2.2)
  rw [List.length_map] at h1 ⊢
  have e : ("; " : PySem.Str).length = 2 := by decide +kernel
  have : nss.length * 77000 ≤ 40 * 77000 := Nat.mul_le_mul_right _ h.1
  have := h.1
  rw [e]
  omega
theorem rows_le {nss : List (List Int)} (h : Fine nss) : (rowsTx nss).length ≤ 3100000 := Nat.le_trans (join_len _ _) (rows_cost h)
theorem Fine.take {nss : List (List Int)} (h : Fine nss) (i : Nat) : Fine (nss.take i) := ⟨by rw [List.length_take]; have := h.1; omega, fun ns m => h.2 ns (List.mem_of_mem_take m)⟩
theorem tx_pos (i : Int) : 1 ≤ (tx i).length := by
  unfold tx
  rw [PySem.ofString_length]
  cases i with
  | ofNat m =>
    show 1 ≤ (Nat.repr m).length
    have := @Nat.length_repr_pos m
    omega
  | negSucc m =>
    show 1 ≤ ("-" ++ Nat.repr (m + 1)).length
    rw [String.length_append]
    have : ("-" : String).length = 1 := rfl
    omega
theorem join_pos {sep a : PySem.Str} {l : List PySem.Str} (h : 1 ≤ a.length) : 1 ≤ (Txt.join sep (a :: l)).length := by
  have e : Txt.join sep (a :: l) = PySem.Str.join sep (a :: l) := StrLaws.glued_eq_join sep _
  rw [e, PyProof.Rows.len_join_cons, List.map_cons, List.sum_cons]
  omega
theorem row_pos {ns : List Int} (h : 1 ≤ ns.length) : 1 ≤ (rowTx ns).length := by
  match ns, h with
  | z :: zs, _ => exact join_pos (tx_pos z)
theorem rows_ne {nss : List (List Int)} (h : Fine nss) (hn : 1 ≤ nss.length) : ¬ (rowsTx nss = "") := by
  intro e
  have l0 : ("" : PySem.Str).length = 0 := by decide +kernel
  have l1 : 1 ≤ (rowsTx nss).length := by
    match nss, hn, h with
    | ns :: r, _, h => exact join_pos (row_pos (h.2 ns List.mem_cons_self).2.1)
  rw [e, l0] at l1
  omega
theorem rowsTx_snoc (l : List (List Int)) (ns : List Int) : rowsTx (l ++ [ns]) = if l = [] then rowTx ns else rowsTx l ++ "; " ++ rowTx ns := by
  unfold rowsTx
  rw [List.map_append, List.map_cons, List.map_nil, join_snoc]
  by_cases e : l = []
  · subst e; rfl
  · rw [if_neg e, if_neg (by simpa using e)]
/-! a comprehension that draws ints from a well -/
structure Wel (p : Addr) (H : Hp) (x y : Int) : Prop where
  at_ : H p = some (.lst [.int x, .int y])
  x0 : 0 ≤ x
  y0 : 0 ≤ y
  y1 : y < 10 ^ 12
section
variable {H : Hp} {Q : VK} {g : TG} {tt : TT} {te : TE} {vs : List Nat} {σ : L2.St} {p : Addr} {x y : Int}
theorem lc_draw {j : Int} (B : Int → Prop) (b1 : -(2 ^ 62) ≤ j) (hz : j ≤ 100000) (h1 : Wel p H x y)
    (hs : ∀ (i : Nat) x y H1, (i : Int) < j → SB p H H1 → Wel p H1 x y → ∀ Z : Option V → Hp → Prop, (∀ r x' y' H2, B r → SB p H1 H2 → Wel p H2 x' y' → Z (some (.int r)) H2) → LcT g tt te vs σ (.int i) H1 Z)
    (k : ∀ D (ds : List Int) x' y' H', Fr H D → ds.length = j.toNat → (∀ z ∈ ds, B z) → SB p H H' → Wel p H' x' y' → H' D = some (.lst (ds.map V.int)) → Q (.ref D) H') : LcR1 g tt te vs σ [.int j] H Q := by
  refine lcr1_acc (fun i acc H1 => ∃ (ds : List Int) (x y : Int), acc = ds.map V.int ∧ (∀ z ∈ ds, B z) ∧ SB p H H1 ∧ Wel p H1 x y) b1 hz ⟨[], x, y, rfl, fun z h => (List.not_mem_nil h).elim, SB.refl _ _, h1⟩ ?_ ?_ ?_
  · rintro D hD i acc H1 H2 s2 ⟨ds, u, v, e, hb, s1, w⟩
    have pD : p ≠ D := fun e => by have := h1.at_; rw [e, hD] at this; cases this
    refine ⟨ds, u, v, e, hb, fun c o n hc => ?_, ⟨s2 _ _ pD w.at_, w.x0, w.y0, w.y1⟩⟩
    exact s2 _ _ (fun z => by rw [z, hD] at hc; cases hc) (s1 _ _ n hc)
  · rintro i acc H1 hi al ⟨ds, u, v, e, hb, s1, w⟩ Z kZ
    refine hs i u v H1 hi s1 w Z fun r u' v' H2 br s2 w2 => kZ _ _ (fun a o ha hc => ?_) ⟨ds ++ [r], u', v', by rw [e, List.map_append]; rfl, ?_, s1.trans s2, w2⟩
    · exact s2 _ _ (fun z => by rw [z, h1.at_] at ha; cases ha) hc
    · intro z hz
      rcases List.mem_append.mp hz with h | h
      · exact hb z h
      · rw [List.mem_singleton.mp h]; exact br
  · rintro D acc H' fD al ⟨ds, u, v, e, hb, s1, w⟩ hD
    subst e
    rw [List.length_map] at al
    exact k D ds u v H' fD al hb s1 w hD
end
end L3

set_option Elab.async false
set_option linter.all false
set_option maxRecDepth 100000
set_option maxHeartbeats 2000000
/-! texts by their signs. -/
namespace L3
open PySem L2 PyProof.Rows
abbrev S (l : List Nat) : PySem.Str := SX.S l
/-- the signs of an int's text -/
def itx (i : Int) : List Nat := if 0 ≤ i then TL.numL i.natAbs else 45 :: TL.numL i.natAbs
theorem tx_S (i : Int) : tx i = S (itx i) := by
  unfold tx itx
  cases i with
  | ofNat m =>
    have h : (0 : Int) ≤ Int.ofNat m := Int.natCast_nonneg m
    rw [if_pos h]
    exact SX.num_S m
  | negSucc m =>
    rw [if_neg (by omega)]
    have e : toString (Int.negSucc m) = "-" ++ toString (((m + 1 : Nat) : Int)) := rfl
    apply TL.ext_tl
    rw [e, TL.tl_ofString, String.toList_append, List.map_append, ← TL.tl_ofString (toString (((m + 1 : Nat) : Int))), TL.tl_num]
    rfl
theorem itx_signs {i : Int} {c : Nat} (h : c ∈ itx i) : c = 45 ∨ (48 ≤ c ∧ c ≤ 57) := by
  unfold itx at h
  split at h
  · exact .inr (TL.numL_digits _ c h)
  · rcases List.mem_cons.mp h with h | h
    · exact .inl h
    · exact .inr (TL.numL_digits _ c h)
theorem itx_free {i : Int} {s : Nat} (h1 : s ≠ 45) (h2 : s < 48 ∨ 57 < s) : s ∉ itx i := fun m => by
  have := itx_signs m
  omega
theorem itx_ne (i : Int) : itx i ≠ [] := by
  unfold itx
  split
  · exact TL.numL_ne _
  · exact List.cons_ne_nil _ _
theorem itx_inj {i j : Int} (h : itx i = itx j) : i = j := by
  unfold itx at h
  split at h <;> split at h
  · have := TL.numL_inj h; omega
  · exact absurd (h ▸ List.mem_cons_self) (TL.numL_free (by omega : (45 : Nat) < 48 ∨ 57 < 45))
  · exact absurd (h.symm ▸ List.mem_cons_self) (TL.numL_free (by omega : (45 : Nat) < 48 ∨ 57 < 45))
  · have := TL.numL_inj (List.cons.inj h).2; omega
theorem numL_len60 {i : Int} (h : i.natAbs < 10 ^ 60) : (TL.numL i.natAbs).length ≤ 60 := TL.numL_len (by decide) h
/-- the text is read back -/
theorem int_back {i : Int} (h : i.natAbs < 10 ^ 60) : PySem.intText? (S (itx i)) = some i := by
  have l := numL_len60 h
  unfold itx
  split
  · have e := intText_digits (x := S (TL.numL i.natAbs)) (TL.numL_digits _) (TL.numL_ne _) (by rw [SX.S_len]; omega)
    rw [show (S (TL.numL i.natAbs)).cps.toList = TL.numL i.natAbs from rfl, TL.numL_val] at e
    rw [e]
    congr 1
    omega
  · have e := intText_neg (x := S (45 :: TL.numL i.natAbs)) (cs := TL.numL i.natAbs) rfl (TL.numL_digits _) (TL.numL_ne _) (by rw [SX.S_len, List.length_cons]; omega)
    rw [e, TL.numL_val]
    congr 1
    omega
/-- a text of digits begins with 0 only if it is 0 itself -/
theorem numL_zero (n : Nat) (h : n ≠ 0) : (TL.numL n).head? ≠ some 48 := by
  induction n using Nat.strongRecOn with
  | _ n ih =>
    by_cases hn : n < 10
    · rw [TL.numL_lt hn]
      simp
      omega
    · rw [TL.numL_step (by omega)]
      have h2 := ih (n / 10) (by omega) (by omega)
      cases e : TL.numL (n / 10) with
      | nil => exact absurd e (TL.numL_ne _)
      | cons c r => rw [e] at h2; simpa using h2
/-! questions to a text -/
theorem subOne (l : List Nat) (c i : Nat) : (decide (i + 1 ≤ (S l).length) && Builtin.Str.subAt (S l) (S [c]) i) = decide (l[i]? = some c) := by
  rw [Bool.eq_iff_iff, Bool.and_eq_true, decide_eq_true_iff, decide_eq_true_iff]
  exact StrLaws.subAt_one (S l) c i
theorem starts_S {c : Nat} {l : List Nat} : Txt.startswith (S l) (S [c]) = decide (l.head? = some c) := by
  have e := subOne l c 0
  rw [show l[0]? = l.head? from (List.head?_eq_getElem? (l := l)).symm] at e
  rw [← e]
  show (decide (0 + (S [c]).length ≤ (S l).length) && _) = _
  rw [SX.S_len [c], Nat.zero_add]
  rfl
theorem ends_S {c : Nat} {l : List Nat} : Txt.endswith (S l) (S [c]) = decide (l.getLast? = some c) := by
  show (decide (0 + (S [c]).length ≤ (S l).length) && Builtin.Str.subAt (S l) (S [c]) ((S l).length - (S [c]).length)) = _
  rw [SX.S_len [c], SX.S_len l]
  cases l with
  | nil => rfl
  | cons a r =>
    have e := subOne (a :: r) c ((a :: r).length - 1)
    rw [SX.S_len, ← List.getLast?_eq_getElem?] at e
    rw [← e]
    show (decide (0 + 1 ≤ r.length + 1) && _) = (decide ((r.length + 1 - 1) + 1 ≤ r.length + 1) && _)
    rw [decide_eq_true (show 0 + 1 ≤ r.length + 1 by omega), decide_eq_true (show (r.length + 1 - 1) + 1 ≤ r.length + 1 by omega)]
    rfl
/-- digits only, and some -/
def digL (l : List Nat) : Bool := !l.isEmpty && l.all fun c => decide (48 ≤ c) && decide (c ≤ 57)
theorem dig_cls : ∀ c, c < 128 → Unicode.isDigit c = (decide (48 ≤ c) && decide (c ≤ 57)) := by decide +kernel
theorem asc_S (l : List Nat) : Txt.isascii (S l) = l.all (fun c => decide (c < 128)) := by
  show (S l).cps.all _ = _
  rw [← Array.all_toList]
theorem isd_S0 (l : List Nat) : Txt.isdigit (S l) = (decide ((S l).length > 0) && l.all Unicode.isDigit) := by
  show (_ && (S l).cps.all _) = _
  rw [← Array.all_toList]
theorem dig_asc {l : List Nat} (h : digL l = true) : Txt.isascii (S l) = true := by
  rw [asc_S, List.all_eq_true]
  intro c hc
  have := List.all_eq_true.mp (Bool.and_eq_true_iff.mp h).2 c hc
  simp at this
  simp
  omega
theorem isd_S {l : List Nat} (h : Txt.isascii (S l) = true) : Txt.isdigit (S l) = digL l := by
  rw [asc_S, List.all_eq_true] at h
  rw [isd_S0, SX.S_len]
  unfold digL
  congr 1
  · cases l <;> rfl
  · rw [Bool.eq_iff_iff, List.all_eq_true, List.all_eq_true]
    refine forall_congr' fun c => forall_congr' fun m => ?_
    rw [dig_cls c (by simpa using h c m)]
theorem dig_all {l : List Nat} (h : digL l = true) : ∀ c ∈ l, 48 ≤ c ∧ c ≤ 57 := fun c hc => by
  have := List.all_eq_true.mp (Bool.and_eq_true_iff.mp h).2 c hc
  simp at this
  exact this
theorem dig_ne {l : List Nat} (h : digL l = true) : l ≠ [] := fun e => by subst e; cases h
theorem dig_num (n : Nat) : digL (TL.numL n) = true := by
  unfold digL
  rw [Bool.and_eq_true]
  refine ⟨?_, List.all_eq_true.mpr fun c hc => ?_⟩
  · cases e : TL.numL n with
    | nil => exact absurd e (TL.numL_ne _)
    | cons a r => rfl
  · have := TL.numL_digits _ c hc
    simp
    omega
/-- the int of at most 60 digits that has a text -/
def numI (l : List Nat) : Option Int :=
  if l.head? = some 45 then (if digL l.tail = true ∧ l.tail.length ≤ 60 ∧ l.tail.head? ≠ some 48 then some (-((NumText.digitsVal l.tail : Nat) : Int)) else none)
  else if digL l = true ∧ l.length ≤ 60 ∧ (l.head? = some 48 → l = [48]) then some ((NumText.digitsVal l : Nat) : Int) else none
def numV : Option Int → V
  | none => .non
  | some i => .int i
theorem numI_itx {i : Int} (h : i.natAbs < 10 ^ 60) : numI (itx i) = some i := by
  have l := numL_len60 h
  have d := dig_num i.natAbs
  unfold itx
  split
  · have z : (TL.numL i.natAbs).head? ≠ some 45 := fun e => by
      have := TL.numL_digits i.natAbs 45 (List.mem_of_mem_head? e)
      omega
    have z2 : (TL.numL i.natAbs).head? = some 48 → TL.numL i.natAbs = [48] := fun e => by
      by_cases n0 : i.natAbs = 0
      · rw [n0]; rfl
      · exact absurd e (numL_zero _ n0)
    unfold numI
    rw [if_neg z, if_pos ⟨d, l, z2⟩, TL.numL_val]
    exact congrArg some (by omega)
  · unfold numI
    rw [if_pos (show (45 :: TL.numL i.natAbs).head? = some 45 from rfl)]
    show (if digL (TL.numL i.natAbs) = true ∧ (TL.numL i.natAbs).length ≤ 60 ∧ (TL.numL i.natAbs).head? ≠ some 48 then some (-((NumText.digitsVal (TL.numL i.natAbs) : Nat) : Int)) else none) = _
    rw [if_pos ⟨d, l, numL_zero _ (by omega)⟩, TL.numL_val]
    exact congrArg some (by omega)
theorem int_pos {l : List Nat} (d : digL l = true) (h : l.length ≤ 60) : PySem.intText? (S l) = some ((NumText.digitsVal l : Nat) : Int) :=
  intText_digits (x := S l) (dig_all d) (dig_ne d) (by rw [SX.S_len]; omega)
theorem int_neg {l : List Nat} (d : digL l = true) (h : l.length ≤ 60) : PySem.intText? (S (45 :: l)) = some (-((NumText.digitsVal l : Nat) : Int)) :=
  intText_neg (x := S (45 :: l)) (cs := l) rfl (dig_all d) (dig_ne d) (by rw [SX.S_len, List.length_cons]; omega)
/-! rules of texts -/
section
variable {X : Cx} {K : PySem.W.Frag} {H : Hp} {Q : VK} {σ : L2.St} {x y : PySem.Str} {b : Bool} {o e : Expr} {to te : TE} {apos pos : Pos}
def rSw : V → List V → Hp → VK → Prop := fun x xs H Q => ∃ a b, x = .str a ∧ xs = [.str b] ∧ Q (.bl (Txt.startswith a b)) H
def rEw : V → List V → Hp → VK → Prop := fun x xs H Q => ∃ a b, x = .str a ∧ xs = [.str b] ∧ Q (.bl (Txt.endswith a b)) H
def rIa : V → List V → Hp → VK → Prop := fun x xs H Q => ∃ a, x = .str a ∧ xs = [] ∧ True ∧ Q (.bl (Txt.isascii a)) H
def rId : V → List V → Hp → VK → Prop := fun x xs H Q => ∃ a, x = .str a ∧ xs = [] ∧ True ∧ Q (.bl (Txt.isdigit a)) H
def rSplit : V → List V → Hp → VK → Prop := fun x xs H Q => ∃ a b, x = .str a ∧ xs = [.str b] ∧ (b.length == 0) = false ∧ a.length + 2 ≤ sizeLine ∧ rNewStrs (Txt.split a b) H Q
theorem pe_sw (ho : PE X o to) (he : PE X e te) (hs : starEach [e] X.env = [(false, eval e X.env)] := by rfl) (hbase : attributeBase o "startswith" X.env (eval o X.env) = eval o X.env := by rfl) (hline : (apos.endLine == pos.line) = true := by rfl) :
    PE X (.Call (.Attribute o "startswith" apos) [e] [] pos) (tM1 rSw to te) := pe_m1 F.slot_str_startswith F.type_str_startswith mt_startswith ho he hs hbase hline
theorem pe_ew (ho : PE X o to) (he : PE X e te) (hs : starEach [e] X.env = [(false, eval e X.env)] := by rfl) (hbase : attributeBase o "endswith" X.env (eval o X.env) = eval o X.env := by rfl) (hline : (apos.endLine == pos.line) = true := by rfl) :
    PE X (.Call (.Attribute o "endswith" apos) [e] [] pos) (tM1 rEw to te) := pe_m1 F.slot_str_endswith F.type_str_endswith mt_endswith ho he hs hbase hline
theorem pe_sp (ho : PE X o to) (he : PE X e te) (hs : starEach [e] X.env = [(false, eval e X.env)] := by rfl) (hbase : attributeBase o "split" X.env (eval o X.env) = eval o X.env := by rfl) (hline : (apos.endLine == pos.line) = true := by rfl) :
    PE X (.Call (.Attribute o "split" apos) [e] [] pos) (tM1 rSplit to te) := pe_split ho he hs hbase hline
theorem pe_ia (ho : PE X o to) (hbase : attributeBase o "isascii" X.env (eval o X.env) = eval o X.env := by rfl) (hline : (apos.endLine == pos.line) = true := by rfl) :
    PE X (.Call (.Attribute o "isascii" apos) [] [] pos) (tM0 rIa to) := pe_m0 F.slot_str_isascii F.type_str_isascii mt_isascii ho hbase hline
theorem pe_id (ho : PE X o to) (hbase : attributeBase o "isdigit" X.env (eval o X.env) = eval o X.env := by rfl) (hline : (apos.endLine == pos.line) = true := by rfl) :
    PE X (.Call (.Attribute o "isdigit" apos) [] [] pos) (tM0 rId to) := pe_m0 F.slot_str_isdigit F.type_str_isdigit mt_isdigit ho hbase hline
def M0R (r : V → List V → Hp → VK → Prop) (x : V) (H : Hp) (Q : VK) : Prop := (∃ a, x = .str a) ∧ r x [] H Q
theorem g_m0 {r : V → List V → Hp → VK → Prop} (h : to σ H fun x H1 => M0R r x H1 Q) : tM0 r to σ H Q := h
theorem m0_at {r : V → List V → Hp → VK → Prop} (h : r (.str x) [] H Q) : M0R r (.str x) H Q := ⟨⟨x, rfl⟩, h⟩
theorem o_sw (e : Txt.startswith x y = b) (k : Q (.bl b) H) : rSw (.str x) [.str y] H Q := ⟨x, y, rfl, rfl, by rw [e]; exact k⟩
theorem o_ew (e : Txt.endswith x y = b) (k : Q (.bl b) H) : rEw (.str x) [.str y] H Q := ⟨x, y, rfl, rfl, by rw [e]; exact k⟩
theorem o_ia (e : Txt.isascii x = b) (k : Q (.bl b) H) : rIa (.str x) [] H Q := ⟨x, rfl, rfl, trivial, by rw [e]; exact k⟩
theorem o_id (e : Txt.isdigit x = b) (k : Q (.bl b) H) : rId (.str x) [] H Q := ⟨x, rfl, rfl, trivial, by rw [e]; exact k⟩
theorem o_split {ys : List PySem.Str} (e : Txt.split x y = ys) (h0 : (y.length == 0) = false) (hl : x.length ≤ 16000000) (k : ∀ p H', Fr H p → Same H H' → H' p = some (.lst (ys.map V.str)) → Q (.ref p) H') : rSplit (.str x) [.str y] H Q :=
  ⟨x, y, rfl, rfl, h0, by rw [sizeLine_eq]; omega, fun p hp => by rw [e]; exact k p _ ⟨hp⟩ (same_upd hp) upd_same⟩
def rLenS : List V → Hp → VK → Prop := fun xs H Q => ∃ s : PySem.Str, xs = [.str s] ∧ s.length ≤ sizeLine ∧ Q (.int s.length) H
theorem c_lenS : CallR X (.builtin "len") rLenS := fun pins s σ H xs us Q I rs h => by
  obtain ⟨a, rfl, hz, q⟩ := h
  exact call_len pins s σ H _ us Q I rs ⟨_, _, rfl, ⟨hz, rfl⟩, q⟩
theorem b_lens {l : List Nat} (h : l.length ≤ 16000000) (k : Q (.int l.length) H) : rLenS [.str (S l)] H Q := ⟨_, rfl, by rw [SX.S_len, sizeLine_eq]; omega, by rw [SX.S_len]; exact k⟩
def rIntS : List V → Hp → VK → Prop := fun xs H Q => ∃ a n, xs = [.str a] ∧ PySem.intText? a = some n ∧ a.length ≤ 640 ∧ Q (.int n) H
theorem c_intS : CallR X (.type "int") rIntS := call_int_str
theorem b_ints {l : List Nat} {n : Int} (e : PySem.intText? (S l) = some n) (h : l.length ≤ 640) (k : Q (.int n) H) : rIntS [.str (S l)] H Q := ⟨_, n, rfl, e, by rw [SX.S_len]; exact h, k⟩
theorem o_slx {lo hi : Option Int} {z : PySem.Str} (e : Txt.slice x lo hi = z) (h : x.length ≤ 16000000) (k : Q (.str z) H) : C8.rSlX (.str x) lo hi H Q := ⟨x, rfl, by rw [sizeLine_eq]; omega, by rw [e]; exact k⟩
theorem in_none3 {a : Addr} {p q r : Option Int} (h1 : H a = some (.tup [numV p, numV q, numV r])) (k : Q (.bl (decide (p = none ∨ q = none ∨ r = none))) H) : rIn K false .non (.ref a) H Q := by
  refine ⟨a, _, rfl, .inr (SqT.of h1), rfl, ?_, ?_⟩
  · cases p <;> cases q <;> cases r <;> rfl
  · have e : inV .non [numV p, numV q, numV r] = decide (p = none ∨ q = none ∨ r = none) := by
      cases p <;> cases q <;> cases r <;> simp [inV, numV, eqV]
    show Q (.bl (inV .non [numV p, numV q, numV r])) H
    rw [e]
    exact k
end
/-! the text of a rule -/
def ruleL (a b d : Int) : List Nat := itx a ++ [114] ++ ([32, 43, 32] ++ (itx b ++ [99] ++ ([32, 43, 32] ++ itx d)))
theorem ruleL_split (a b d : Int) : Txt.split (S (ruleL a b d)) (S [32, 43, 32]) = [S (itx a ++ [114]), S (itx b ++ [99]), S (itx d)] := by
  have f : ∀ (i : Int) (c : Nat), c ≠ 32 → 32 ∉ itx i ++ [c] := fun i c h m => by
    rcases List.mem_append.mp m with m | m
    · exact itx_free (by decide) (.inl (by decide)) m
    · exact h (List.mem_singleton.mp m).symm
  rw [SX.split_S (by decide) (by decide)]
  unfold ruleL
  rw [TL.spl_part1 (f a 114 (by decide)), TL.spl_part1 (f b 99 (by decide)), TL.spl_last1 (itx_free (by decide) (.inl (by decide)))]
  rfl
theorem itx_len {i : Int} (h : i.natAbs < 10 ^ 60) : (itx i).length ≤ 61 := by
  have := numL_len60 h
  unfold itx
  split
  · omega
  · rw [List.length_cons]; omega
theorem ruleL_len {a b d : Int} (ha : a.natAbs < 10 ^ 60) (hb : b.natAbs < 10 ^ 60) (hd : d.natAbs < 10 ^ 60) : (ruleL a b d).length ≤ 1000 := by
  have := itx_len ha
  have := itx_len hb
  have := itx_len hd
  unfold ruleL
  simp only [List.length_append, List.length_cons, List.length_nil]
  omega
end L3

set_option Elab.async false
set_option linter.all false
set_option maxRecDepth 100000
set_option maxHeartbeats 2000000
/-! texts, sign by sign: comprehensions over them, one within another, repeated; slices of any kind; lists of texts compared. -/
namespace L3
open PySem L2 PyProof.Rows
section
variable {K : PySem.W.Frag} {σ : L2.St} {H : Hp} {Q : VK} {te tl : TE} {g : TG} {tt : TT} {vs : List Nat}
def LcS (g : TG) (tt : TT) (te : TE) (vs : List Nat) (σ : L2.St) (x : V) (H1 : Hp) (Q : VK) : Prop := ∃ z, x = .str z ∧ ∀ D, H1 D = none → ∃ W : Nat → Nat → Hp → Prop, (∃ m, W 0 m (upd H1 D (.lst []))) ∧ ∀ i m H, W i m H →
  ((Its z).stop i H ∧ Q (.ref D) H) ∨ ((Its z).go i H ∧ ∃ Nx : Hp → Prop, (∀ H', Nx H' → ∃ m', m' < m ∧ W (i + 1) m' H') ∧ ∀ x H', (Its z).yld i H x H' → g x (wipe σ vs) H' fun σ2 H2 => wipe σ2 vs = wipe σ vs ∧ tt σ2 H2 fun b H3 =>
    if b = true then te σ2 H3 fun y H4 => ∃ acc, H4 D = some (.lst acc) ∧ acc.length < sizeLine ∧ Nx (upd H4 D (.lst (acc ++ [y]))) else Nx H3)
theorem g_lcs (h : tl σ H fun x H1 => LcS g tt te vs σ x H1 Q) : tLc (iStr tl) g tt te vs σ H Q := h
theorem fm_take {α β : Type} {f : α → Option β} {l : List α} {i : Nat} {x : α} (h : l[i]? = some x) : (l.take (i + 1)).filterMap f = (l.take i).filterMap f ++ (match f x with | some y => [y] | none => []) := by
  rw [List.take_add_one, h, List.filterMap_append]
  congr 1
  show List.filterMap f [x] = _
  rw [List.filterMap_cons]
  cases f x <;> rfl
theorem lcs_fun {l : List Nat} (f : Nat → Option V) (hz : l.length ≤ 100000)
    (hs : ∀ c ∈ l, ∀ H1, Same H H1 → ∀ R : Option V → Hp → Prop, (∀ H2, Same H1 H2 → R (f c) H2) → LcT g tt te vs σ (.str (S [c])) H1 R)
    (k : ∀ D H', Fr H D → Same H H' → H' D = some (.lst (l.filterMap f)) → Q (.ref D) H') : LcS g tt te vs σ (.str (S l)) H Q := by
  have ec : ∀ i : Nat, (S l).cps[i]? = l[i]? := fun i => by simp [S, SX.S]
  have es : (S l).cps.size = l.length := by simp [S, SX.S]
  refine ⟨S l, rfl, fun D hD => lc_it (walk_str (z := S l)) (fun i H' => i ≤ l.length ∧ Same H H' ∧ H' D = some (.lst ((l.take i).filterMap f))) ⟨Nat.zero_le _, same_upd hD, upd_same⟩ (fun i H' _ _ => trivial) ?_ ?_⟩
  · rintro i x H0 H1 hi ⟨_, sH, eD⟩ ⟨rfl, c, hc, rfl⟩
    rw [ec] at hc
    rw [es] at hi
    refine hs c (List.mem_of_getElem? hc) H1 sH (fun o H4 => match o with
      | some y => ∃ acc, H4 D = some (.lst acc) ∧ acc.length < sizeLine ∧ (i + 1 ≤ l.length ∧ Same H (upd H4 D (.lst (acc ++ [y]))) ∧ (upd H4 D (.lst (acc ++ [y]))) D = some (.lst ((l.take (i + 1)).filterMap f)))
      | none => i + 1 ≤ l.length ∧ Same H H4 ∧ H4 D = some (.lst ((l.take (i + 1)).filterMap f))) fun H2 s2 => ?_
    have tk := fm_take (f := f) hc
    cases e : f c with
    | none =>
      rw [e] at tk
      exact ⟨hi, sH.trans s2, by rw [tk, List.append_nil]; exact s2 _ _ eD⟩
    | some y =>
      rw [e] at tk
      refine ⟨_, s2 _ _ eD, ?_, hi, fun b o q => ?_, by rw [upd_same, tk]⟩
      · have l1 := List.length_filterMap_le f (l.take i)
        rw [List.length_take] at l1
        exact Nat.lt_of_le_of_lt (by omega : _ ≤ 100000) (by decide)
      · rw [upd_ne (ne_of_none q hD)]
        exact s2 _ _ (sH _ _ q)
  · rintro H1 ⟨_, sH, eD⟩
    rw [es, List.take_length] at eD
    exact k D H1 ⟨hD⟩ sH eD
def rNinS : R2 := fun x y H Q => ∃ i j, x = .str i ∧ y = .str j ∧ Q (.bl (!(!(Builtin.Str.occurrences j i 0 j.length 1).isEmpty))) H
theorem op_ninS {X : Cx} : OpR X (compareOp .NotIn) rNinS := op_notin_str
theorem o_nins {l : List Nat} {c : Nat} (k : Q (.bl (!decide (c ∈ l))) H) : rNinS (.str (S [c])) (.str (S l)) H Q := ⟨_, _, rfl, rfl, by rw [SX.in_one]; exact k⟩
/-- a text, repeated -/
def rMulS : R2 := fun x y H Q => ∃ a k, x = .str a ∧ y = .int k ∧ 2 ≤ k ∧ k ≤ 100000 ∧ 1 ≤ a.length ∧ a.length ≤ 100 ∧ Q (.str (Txt.mul a k)) H
theorem op_mulS {X : Cx} : OpR X (binaryOp .Mult) rMulS := by
  intro pins s σ H x y v u Q I rx ry h
  obtain ⟨a, k, rfl, rfl, k1, k2, a1, a2, q⟩ := h
  obtain ⟨t, rfl⟩ := rx
  obtain ⟨t', rfl⟩ := ry
  refine PySem.SB.mul ⟨?_, fun _ _ => ?_, fun _ _ => ?_⟩ fun t' j => ⟨.str (Txt.mul a k), H, I.tok j, ⟨_, rfl⟩, q⟩
  · rw [decide_eq_false (by omega), decide_eq_false (by omega)]; rfl
  · have : (100000 : Int) ≤ (2 ^ 63 - 1) / k := (Int.le_ediv_iff_mul_le (by omega)).mpr (by omega)
    omega
  · have h1 : k.toNat ≤ 100000 := by omega
    have h2 : a.length * k.toNat ≤ 100 * 100000 := Nat.mul_le_mul a2 h1
    exact PyProof.Rows.short24 (by omega)
theorem o_nin10 {c : Nat} (k : Q (.bl (!decide (48 ≤ c ∧ c ≤ 57))) H) : rNinS (.str (S [c])) (.str "0123456789") H Q := by
  have e : ("0123456789" : PySem.Str) = S [48, 49, 50, 51, 52, 53, 54, 55, 56, 57] := by decide +kernel
  rw [e]
  refine o_nins ?_
  have e2 : decide (c ∈ [48, 49, 50, 51, 52, 53, 54, 55, 56, 57]) = decide (48 ≤ c ∧ c ≤ 57) := by
    rw [Bool.eq_iff_iff, decide_eq_true_iff, decide_eq_true_iff]
    simp only [List.mem_cons, List.not_mem_nil, or_false]
    omega
  rw [e2]
  exact k
theorem ixs0 {c : Nat} {t : List Nat} (h : t.length ≤ 1000000) (k : Q (.str (S [c])) H) : rIx K (.str (S (c :: t))) (.int 0) H Q :=
  .inr (.inr ⟨S (c :: t), 0, c, rfl, rfl, by rw [SX.S_len, List.length_cons, sizeLine_eq]; omega, by simp [atI, ixN, S, SX.S], k⟩)
/-- texts that can be compared within lists, of a length -/
structure TK (n : Nat) (x : PySem.Str) : Prop where
  len : x.length ≤ n
  ok : PyData.strOk x = true
theorem ok_S {l : List Nat} : PyData.strOk (S l) = true ↔ ∀ c ∈ l, c < 1114112 := by
  show ((S l).cps.all _) = true ↔ _
  rw [← Array.all_toList, List.all_eq_true]
  show (∀ c ∈ l, decide (c < 1114112) = true) ↔ _
  simp only [decide_eq_true_iff]
theorem TK.of {n : Nat} {l : List Nat} (h : l.length ≤ n) (k : ∀ c ∈ l, c < 1114112) : TK n (S l) := ⟨by rw [SX.S_len]; exact h, ok_S.mpr k⟩
theorem TK.lit {x : PySem.Str} (h1 : x.length ≤ 100) (h2 : PyData.strOk x = true) : TK 100 x := ⟨h1, h2⟩
theorem TK.mono {a b : Nat} {x : PySem.Str} (h : TK a x) (k : a ≤ b) : TK b x := ⟨Nat.le_trans h.len k, h.ok⟩
theorem TK.ex {n : Nat} {x : PySem.Str} (h : TK n x) : ∃ l, x = S l ∧ l.length ≤ n ∧ ∀ c ∈ l, c < 1114112 := by
  have e := SX.S_tl x
  have h1 := h.len
  have h2 := h.ok
  rw [← e] at h1 h2
  exact ⟨x.cps.toList, e.symm, by rw [SX.S_len] at h1; exact h1, ok_S.mp h2⟩
theorem TK.app {a b : Nat} {x y : PySem.Str} (hx : TK a x) (hy : TK b y) : TK (a + b) (x ++ y) := by
  obtain ⟨l, rfl, l1, l2⟩ := hx.ex
  obtain ⟨m, rfl, m1, m2⟩ := hy.ex
  rw [show S l ++ S m = S (l ++ m) from SX.S_cat l m]
  refine .of (by rw [List.length_append]; omega) fun c hc => ?_
  rcases List.mem_append.mp hc with h | h
  · exact l2 c h
  · exact m2 c h
theorem TK.sl {n : Nat} {x : PySem.Str} {lo hi : Option Int} (h : TK n x) : TK n (Txt.slice x lo hi) := by
  obtain ⟨l, rfl, l1, l2⟩ := h.ex
  rw [← C8.cutS_slice]
  have e : cutS (S l) lo hi = S ((l.drop (HT.sIx (S l).length 0 lo)).take (HT.sIx (S l).length (S l).length hi - HT.sIx (S l).length 0 lo)) := rfl
  rw [e]
  refine .of ?_ fun c hc => l2 c (List.mem_of_mem_drop (List.mem_of_mem_take hc))
  rw [List.length_take, List.length_drop]
  omega
theorem TK.tx {i : Int} (h : Sz 1900 i) : TK 1901 (tx i) := ⟨TL.int h, by
  rw [tx_S]
  refine ok_S.mpr fun c hc => ?_
  have := itx_signs hc
  omega⟩
theorem TK.mul {c : Nat} {k : Int} (h : c < 1114112) (k2 : k ≤ 1000) : TK 1000 (Txt.mul (S [c]) k) := by
  have e : Txt.mul (S [c]) k = S (List.replicate k.toNat c) := TL.ext_tl (PyProof.Rows.mul_one_list c k)
  rw [e]
  refine .of (by rw [List.length_replicate]; omega) fun d hd => ?_
  rw [List.eq_of_mem_replicate hd]
  exact h
/-- what stands in a text and is no digit -/
def dgF (c : Nat) : Option V := if 48 ≤ c ∧ c ≤ 57 then none else some (.str (S [c]))
theorem dgF_nil {l : List Nat} (h : digL l = true) : l.filterMap dgF = [] := by
  rw [List.filterMap_eq_nil_iff]
  intro c hc
  exact if_pos (dig_all h c hc)
theorem dgF_strs : ∀ l : List Nat, (∀ c ∈ l, c < 1114112) → ∃ xs : List PySem.Str, l.filterMap dgF = xs.map V.str ∧ ∀ x ∈ xs, PyData.strOk x = true
  | [], _ => ⟨[], rfl, fun _ h => (List.not_mem_nil h).elim⟩
  | c :: l, h => by
    obtain ⟨xs, e, o⟩ := dgF_strs l fun d m => h d (List.mem_cons_of_mem _ m)
    rw [List.filterMap_cons]
    by_cases hc : 48 ≤ c ∧ c ≤ 57
    · rw [show dgF c = none from if_pos hc]; exact ⟨xs, e, o⟩
    · rw [show dgF c = some (.str (S [c])) from if_neg hc]
      refine ⟨S [c] :: xs, by rw [e]; rfl, fun x m => ?_⟩
      rcases List.mem_cons.mp m with rfl | m
      · exact ok_S.mpr fun d hd => by rw [List.mem_singleton.mp hd]; exact h c List.mem_cons_self
      · exact o x m
theorem dgF_some {l : List Nat} (h0 : l ≠ []) (hd : ¬ digL l = true) (hk : ∀ c ∈ l, c < 1114112) : ∃ (x : PySem.Str) (xs : List PySem.Str), l.filterMap dgF = V.str x :: xs.map V.str ∧ ∀ y ∈ x :: xs, PyData.strOk y = true := by
  obtain ⟨xs, e, o⟩ := dgF_strs l hk
  cases xs with
  | cons x xs => exact ⟨x, xs, e, o⟩
  | nil =>
    exfalso
    refine hd ?_
    have z := List.filterMap_eq_nil_iff.mp e
    unfold digL
    rw [Bool.and_eq_true]
    refine ⟨by cases l with | nil => exact absurd rfl h0 | cons => rfl, List.all_eq_true.mpr fun c hc => ?_⟩
    have := z c hc
    unfold dgF at this
    split at this
    · rename_i h; rw [decide_eq_true h.1, decide_eq_true h.2]; rfl
    · cases this
theorem dp_strs : ∀ l : List PySem.Str, DpAll K H (l.map V.str) (l.map PyData.str)
  | [] => .nil
  | x :: l => .cons (.str x) (dp_strs l)
theorem lay_strs : ∀ l : List PySem.Str, (∀ x ∈ l, PyData.strOk x = true) → PyData.canLayAll0 (l.map PyData.str) = true
  | [], _ => by simp [PyData.canLayAll0]
  | x :: l, h => by simp [PyData.canLayAll0, PyData.canLay0, lay_strs l fun y m => h y (List.mem_cons_of_mem _ m), h x List.mem_cons_self]
theorem depth_strs : ∀ l : List PySem.Str, PyData.depthAll (l.map PyData.str) ≤ 1
  | [] => by simp [PyData.depthAll]
  | x :: l => by
    have h1 := depth_strs l
    simp only [List.map_cons, PyData.depthAll, PyData.depth]
    omega
theorem shaped_strs {l : List PySem.Str} (h : ∀ x ∈ l, PyData.strOk x = true) : SeqAt.shaped (.list (l.map PyData.str)) = true := by
  have h1 := depth_strs l
  have h2 : PyData.depth (.list (l.map PyData.str)) ≤ 64 := by
    simp only [PyData.depth]
    omega
  show (PyData.canLay0 (.list (l.map PyData.str)) && decide (PyData.depth (.list (l.map PyData.str)) ≤ 64)) = true
  rw [Bool.and_eq_true]
  exact ⟨by simp only [PyData.canLay0]; exact lay_strs l h, decide_eq_true h2⟩
/-- a list that is not empty, and the empty one -/
theorem o_ne0 {a b : Addr} {x : V} {xs : List V} {d : PyData} {ds : List PyData} (h1 : H a = some (.lst (x :: xs))) (h2 : H b = some (.lst [])) (hd : DpAll K H (x :: xs) (d :: ds)) (hs : SeqAt.shaped (.list (d :: ds)) = true) (k : Q (.bl true) H) : rNeD K (.ref a) (.ref b) H Q :=
  ⟨.list (d :: ds), .list [], .lst (SqL.of h1) hd, .lst (SqL.of h2) .nil, hs, rfl, by rw [PyData.eqv, PyData.eqvAll]; exact k⟩
theorem o_nstr {a b : Addr} {x : PySem.Str} {xs : List PySem.Str} (h1 : H a = some (.lst (V.str x :: xs.map V.str))) (ho : ∀ y ∈ x :: xs, PyData.strOk y = true) (h2 : H b = some (.lst [])) (k : Q (.bl true) H) : rNeD K (.ref a) (.ref b) H Q :=
  o_ne0 (d := PyData.str x) (ds := xs.map PyData.str) h1 h2 (dp_strs (x :: xs)) (shaped_strs ho) k
/-- two lists of the same texts -/
theorem o_eqstr {a b : Addr} {xs : List PySem.Str} (h1 : H a = some (.lst (xs.map V.str))) (ho : ∀ y ∈ xs, PyData.strOk y = true) (h2 : H b = some (.lst (xs.map V.str))) (k : Q (.bl true) H) : rEqD K (.ref a) (.ref b) H Q :=
  o_eqd (.lst (SqL.of h1) (dp_strs xs)) (.lst (SqL.of h2) (dp_strs xs)) (shaped_strs ho) k
/-! slices of any text -/
theorem o_sla {n : Nat} {x : PySem.Str} {lo hi : Option Int} (h : TK n x) (hn : n ≤ 16000000) (k : Q (.str (Txt.slice x lo hi)) H) : C8.rSlX (.str x) lo hi H Q := ⟨x, rfl, by have : x.length ≤ n := h.len; rw [sizeLine_eq]; omega, k⟩
theorem o_addk {a b : Nat} {x y : PySem.Str} (ha : TK a x) (hb : TK b y) (h : a + b ≤ 16777216) (k : Q (.str (x ++ y)) H) : rAddS (.str x) (.str y) H Q := o_adds ha.len hb.len h k
theorem o_mulk {x : PySem.Str} {k : Int} (h : TK 100 x) (h1 : 1 ≤ x.length) (k1 : 2 ≤ k) (k2 : k ≤ 1000) (q : Q (.str (Txt.mul x k)) H) : rMulS (.str x) (.int k) H Q := ⟨x, k, rfl, rfl, k1, by omega, h1, h.len, q⟩
theorem b_lena {n : Nat} {x : PySem.Str} (h : TK n x) (hn : n ≤ 16000000) (k : Q (.int x.length) H) : rLenS [.str x] H Q := ⟨x, rfl, by have : x.length ≤ n := h.len; rw [sizeLine_eq]; omega, k⟩
end
/-! a rule's text, read -/
def readL (l : List Nat) : Option (Int × Int × Int) :=
  match TL.spl [32, 43, 32] 0 [] l with
  | [u, v, w] => if u.getLast? = some 114 ∧ v.getLast? = some 99 then (match numI u.dropLast, numI v.dropLast, numI w with | some a, some b, some d => some (a, b, d) | _, _, _ => none) else none
  | _ => none
theorem spl_mem (T : List Nat) : ∀ (r : List Nat) (j : Nat) (acc p : List Nat), p ∈ TL.spl T j acc r → p.length ≤ acc.length + r.length ∧ ∀ c ∈ p, c ∈ acc ∨ c ∈ r
  | [], j, acc, p, h => by
    rw [TL.spl_nil, List.mem_singleton] at h
    subst h
    exact ⟨Nat.le_refl _, fun c m => .inl m⟩
  | c :: r, 0, acc, p, h => by
    show _
    unfold TL.spl at h
    split at h
    · rcases List.mem_cons.mp h with rfl | h
      · exact ⟨Nat.le_add_right _ _, fun c m => .inl m⟩
      · obtain ⟨h1, h2⟩ := spl_mem T r _ _ _ h
        refine ⟨by simp at h1 ⊢; omega, fun d m => ?_⟩
        rcases h2 d m with m | m
        · exact (List.not_mem_nil m).elim
        · exact .inr (List.mem_cons_of_mem _ m)
    · obtain ⟨h1, h2⟩ := spl_mem T r _ _ _ h
      refine ⟨by simp at h1 ⊢; omega, fun d m => ?_⟩
      rcases h2 d m with m | m
      · rcases List.mem_append.mp m with m | m
        · exact .inl m
        · rw [List.mem_singleton.mp m]; exact .inr List.mem_cons_self
      · exact .inr (List.mem_cons_of_mem _ m)
  | c :: r, j + 1, acc, p, h => by
    unfold TL.spl at h
    obtain ⟨h1, h2⟩ := spl_mem T r _ _ _ h
    refine ⟨by rw [List.length_cons]; omega, fun d m => ?_⟩
    rcases h2 d m with m | m
    · exact .inl m
    · exact .inr (List.mem_cons_of_mem _ m)
theorem split3 (l : List Nat) : Txt.split (S l) (S [32, 43, 32]) = (TL.spl [32, 43, 32] 0 [] l).map S := SX.split_S (by decide) (by decide)
theorem cut_last {u : List Nat} {c : Nat} (h : u.getLast? = some c) : Txt.slice (S u) none (some (-1)) = S u.dropLast := by
  have : u ≠ [] := fun e => by subst e; cases h
  rw [SX.slice_butlast this, List.dropLast_eq_take]
theorem last_one {u : List Nat} : Txt.slice (S u) (some (-1)) none = S (match u.getLast? with | some c => [c] | none => []) := by
  by_cases h : u = []
  · subst h; decide +kernel
  · rw [SX.slice_last h]
    congr 1
    rw [List.getLast?_eq_some_getLast h]
    obtain ⟨p, c, rfl⟩ : ∃ p c, u = p ++ [c] := ⟨_, _, (List.dropLast_concat_getLast h).symm⟩
    simp
def lastL (u : List Nat) : List Nat := match u.getLast? with | some c => [c] | none => []
theorem last_is (u : List Nat) : Txt.slice (S u) (some (-1)) none = S (lastL u) := last_one
theorem lastL_ne {u : List Nat} {c : Nat} (h : ¬ u.getLast? = some c) : lastL u ≠ [c] := by
  unfold lastL
  cases e : u.getLast? with
  | none => intro q; cases q
  | some d => intro q; exact h (by rw [e, (List.cons.inj q).1])
theorem lastL_eq {u : List Nat} {c : Nat} (h : u.getLast? = some c) : lastL u = [c] := by unfold lastL; rw [h]
theorem read_three {l u v w : List Nat} (e : TL.spl [32, 43, 32] 0 [] l = [u, v, w]) : readL l = if u.getLast? = some 114 ∧ v.getLast? = some 99 then (match numI u.dropLast, numI v.dropLast, numI w with | some a, some b, some d => some (a, b, d) | _, _, _ => none) else none := by
  unfold readL
  rw [e]
theorem read_yes {l u v w : List Nat} {a b d : Int} (e : TL.spl [32, 43, 32] 0 [] l = [u, v, w]) (h1 : u.getLast? = some 114) (h2 : v.getLast? = some 99) (ea : numI u.dropLast = some a) (eb : numI v.dropLast = some b) (ed : numI w = some d) : readL l = some (a, b, d) := by
  rw [read_three e, if_pos ⟨h1, h2⟩, ea, eb, ed]
theorem read_no {l u v w : List Nat} (e : TL.spl [32, 43, 32] 0 [] l = [u, v, w]) (h : ¬ u.getLast? = some 114 ∨ ¬ v.getLast? = some 99 ∨ numI u.dropLast = none ∨ numI v.dropLast = none ∨ numI w = none) : readL l = none := by
  rw [read_three e]
  split
  · rename_i q
    rcases h with h | h | h | h | h
    · exact absurd q.1 h
    · exact absurd q.2 h
    · rw [h]
    · rw [h]; cases numI u.dropLast <;> rfl
    · rw [h]; cases numI u.dropLast <;> cases numI v.dropLast <;> rfl
  · rfl
theorem read_many {l : List Nat} (h : (TL.spl [32, 43, 32] 0 [] l).length ≠ 3) : readL l = none := by
  unfold readL
  split
  · rename_i e; rw [e] at h; exact absurd rfl h
  · rfl
def WordsR (p q r : Option Int) (H : Hp) (R : V) : Prop := (∃ a b d D, p = some a ∧ q = some b ∧ r = some d ∧ R = .ref D ∧ H D = some (.lst [.int a, .int b, .int d])) ∨ ((p = none ∨ q = none ∨ r = none) ∧ R = .non)
def RuleR (o : Option (Int × Int × Int)) (H : Hp) (R : V) : Prop := (∃ a b d D, o = some (a, b, d) ∧ R = .ref D ∧ H D = some (.lst [.int a, .int b, .int d])) ∨ (o = none ∧ R = .non)
theorem words_rule {l u v w : List Nat} {H : Hp} {R : V} (e : TL.spl [32, 43, 32] 0 [] l = [u, v, w]) (h1 : u.getLast? = some 114) (h2 : v.getLast? = some 99) (h : WordsR (numI u.dropLast) (numI v.dropLast) (numI w) H R) : RuleR (readL l) H R := by
  rcases h with ⟨a, b, d, D, ea, eb, ed, rfl, hD⟩ | ⟨h, rfl⟩
  · exact .inl ⟨a, b, d, D, read_yes e h1 h2 ea eb ed, rfl, hD⟩
  · exact .inr ⟨read_no e (.inr (.inr h)), rfl⟩
theorem okl_cut {u : List Nat} (h : u.length ≤ 100000) : u.dropLast.length ≤ 100000 := by rw [List.length_dropLast]; omega
theorem okc_cut {u : List Nat} (h : ∀ c ∈ u, c < 1114112) : ∀ c ∈ u.dropLast, c < 1114112 := fun c m => h c (List.dropLast_subset _ m)
section
variable {K : PySem.W.Frag} {H : Hp} {Q : VK}
theorem o_ixk {n : Nat} {x : PySem.Str} {i : Int} (h : TK n x) (hn : n ≤ 16000000) (h0 : 0 ≤ i) (h1 : i < x.length) (k : ∀ z, TK 1 z → Q (.str z) H) : rIx K (.str x) (.int i) H Q := by
  obtain ⟨l, rfl, l1, l2⟩ := h.ex
  rw [SX.S_len] at h1
  have hi : i.toNat < l.length := by omega
  have e : atI (S l).cps.toList i = some l[i.toNat] := by
    show (ixN l.length i).bind (fun j => l[j]?) = _
    unfold ixN
    rw [if_pos h0, if_pos h1]
    exact List.getElem?_eq_getElem hi
  exact .inr (.inr ⟨S l, i, _, rfl, rfl, by rw [SX.S_len, sizeLine_eq]; omega, e, k (S [l[i.toNat]]) (.of (Nat.le_refl 1) fun c hc => by rw [List.mem_singleton.mp hc]; exact l2 _ (List.getElem_mem hi))⟩)
theorem o_mul7 {k : Int} (k1 : 2 ≤ k) (k2 : k ≤ 1000) (q : ∀ z, TK 1000 z → Q (.str z) H) : rMulS (.str "7") (.int k) H Q :=
  o_mulk (x := S [55]) (.mono (.of (Nat.le_refl 1) (by simp)) (by decide)) (by rw [SX.S_len]; decide) k1 k2 (q _ (TK.mul (by decide) k2))
end
end L3

set_option Elab.async false
set_option linter.all false
set_option maxRecDepth 100000
set_option maxHeartbeats 2000000
/-! tuples of ints in order -/
namespace L3
open PySem L2 PyProof.Rows
/-- what the first unequal pair of two pairs of ints says -/
def rGtT2 (K : PySem.W.Frag) : R2 := fun x y H Q => ∃ (a b : Addr) (i j k l : Int), x = .ref a ∧ y = .ref b ∧ SqT K H a [.int i, .int j] ∧ SqT K H b [.int k, .int l] ∧ Q (.bl (decide (k < i ∨ (k = i ∧ l < j)))) H
theorem pair_at {its : List Value} {i j : Int} (hv : Vals [V.int i, V.int j] its) : its.toArray.size = 2 ∧ ∀ n (hn : n < its.toArray.size), ∃ t, its.toArray[n] = .int (if n = 0 then i else j) t := by
  cases hv with
  | cons r1 h2 =>
    cases h2 with
    | cons r2 h3 =>
      cases h3
      obtain ⟨t1, e1⟩ := r1
      obtain ⟨t2, e2⟩ := r2
      subst e1 e2
      refine ⟨rfl, fun n hn => ?_⟩
      have : n = 0 ∨ n = 1 := by simp at hn; omega
      rcases this with rfl | rfl
      · exact ⟨t1, rfl⟩
      · exact ⟨t2, rfl⟩
theorem op_gtT2 {X : Cx} (hu : X.A.units < cLine) : OpR X (compareOp .Gt) (rGtT2 X.K) := by
  intro pins s σ H x y v u Q I rx ry h
  obtain ⟨a, b, i, j, k, l, rfl, rfl, ha, hb, q⟩ := h
  cases rx
  cases ry
  obtain ⟨us, ru, pu, _⟩ := I.tuple ha
  obtain ⟨ws, rw_, pw, _⟩ := I.tuple hb
  obtain ⟨su, au⟩ := pair_at ru
  obtain ⟨sw, aw⟩ := pair_at rw_
  have main := Ob.RcOp.tuples_gt (A := X.A) (s := s) (e := fun n => decide ((if n = 0 then i else j) = (if n = 0 then k else l))) (r := fun n => decide ((if n = 0 then k else l) < (if n = 0 then i else j))) pu pw hu
    (fun n n1 n2 => by
      obtain ⟨t, et⟩ := au n n1
      obtain ⟨t', et'⟩ := aw n n2
      rw [et, et']
      have same : decide ((if n = 0 then i else j) = (if n = 0 then k else l)) = ((if n = 0 then i else j) == (if n = 0 then k else l)) := by
        by_cases c : (if n = 0 then i else j) = (if n = 0 then k else l)
        · simp [c]
        · simp [c]
      show SeqAt.EqAt _ _ _ _ (decide ((if n = 0 then i else j) = (if n = 0 then k else l)))
      rw [same]
      exact SeqAt.EqAt.int_int _ _ _ _)
    (fun n n1 n2 _ => by
      obtain ⟨t, et⟩ := au n n1
      obtain ⟨t', et'⟩ := aw n n2
      rw [et, et']
      exact Ob.RcOp.gt_int _ _ _ _)
  rw [su, sw] at main
  refine main X.prog X.w X.xe (EP X pins σ Q) ⟨.bl _, H, I, rfl, ?_⟩
  have e2 : Ob.lexAt (fun n => decide ((if n = 0 then i else j) = (if n = 0 then k else l))) (fun n => decide ((if n = 0 then k else l) < (if n = 0 then i else j))) (decide ((2 : Nat) > 2)) 0 (min 2 2) = decide (k < i ∨ (k = i ∧ l < j)) := by
    show Ob.lexAt _ _ _ 0 2 = _
    rw [Ob.lexAt_succ]
    by_cases c1 : i = k
    · rw [if_pos (by simp [c1]), Ob.lexAt_succ]
      by_cases c2 : j = l
      · rw [if_pos (by simp [c2]), Ob.lexAt_zero]
        exact decide_eq_decide.mpr (by omega)
      · rw [if_neg (by simp [c2])]
        exact decide_eq_decide.mpr (by simp; omega)
    · rw [if_neg (by simp [c1])]
      exact decide_eq_decide.mpr (by simp; omega)
  rw [e2]
  exact q
theorem op_gtU2 {X : Cx} {K : PySem.W.Frag} (hK : X.K = K) (hu : X.A.units < cLine) : OpR X (compareOp .Gt) (rOr rGtI (rGtT2 K)) := by
  subst hK
  exact op_or2 op_gtU (op_gtT2 hu)
section
variable {K : PySem.W.Frag} {H : Hp} {Q : VK} {a b : Addr} {i j k l : Int}
theorem o_gtT2 (h1 : H a = some (.tup [.int i, .int j])) (h2 : H b = some (.tup [.int k, .int l])) (h : Q (.bl (decide (k < i ∨ (k = i ∧ l < j)))) H) : rGtT2 K (.ref a) (.ref b) H Q := ⟨a, b, i, j, k, l, rfl, rfl, SqT.of h1, SqT.of h2, h⟩
end
end L3

set_option Elab.async false
set_option linter.all false
set_option maxRecDepth 100000
set_option maxHeartbeats 2000000
/-! comprehensions whose items are new objects, or None. -/
namespace L3
open PySem L2 PyProof.Rows
/-- a new object (H0: where it did not stand yet), or None -/
def May (o : Option HO) (H0 H : Hp) (v : V) : Prop := (∃ q u, o = some u ∧ v = .ref q ∧ Fr H0 q ∧ H q = some u) ∨ (o = none ∧ v = .non)
def refOf : V → Option Addr
  | .ref q => some q
  | _ => none
section
variable {H : Hp} {Q : VK} {g : TG} {tt : TT} {te : TE} {vs : List Nat} {σ : L2.St}
theorem lc_may {xs : List V} {a : Addr} {K : PySem.W.Frag} (f : Nat → Option HO) (h1 : SqL K H a xs) (hz : xs.length ≤ 100000)
    (hs : ∀ (i : Nat) x, xs[i]? = some x → ∀ H1, Same H H1 → ∀ Z : Option V → Hp → Prop, (∀ v H2, Same H1 H2 → May (f i) H1 H2 v → Z (some v) H2) → LcT g tt te vs σ x H1 Z)
    (k : ∀ D (us : List V) H', Fr H D → Same H H' → us.length = xs.length → (us.filterMap refOf).Nodup → D ∉ us.filterMap refOf → (∀ (i : Nat) v, us[i]? = some v → May (f i) H H' v) → H' D = some (.lst us) → Q (.ref D) H') : LcL K g tt te vs σ (.ref a) H Q := by
  refine ⟨a, rfl, ⟨xs, h1⟩, fun D hD => lc_list (xs := xs) (fun i H' => i ≤ xs.length ∧ Same H H' ∧ ∃ us : List V, us.length = i ∧ (us.filterMap refOf).Nodup ∧ D ∉ us.filterMap refOf ∧ (∀ (j : Nat) v, us[j]? = some v → May (f j) H H' v) ∧ H' D = some (.lst us))
    ⟨Nat.zero_le _, same_upd hD, [], rfl, List.nodup_nil, List.not_mem_nil, fun j v h => by simp at h, upd_same⟩ (fun i H' _ q => q.2.1.seq h1) ?_ ?_⟩
  · rintro i x H1 hx ⟨hi, sH, us, hl, hn, hDq, hq, eD⟩
    have hlt : i < xs.length := (List.getElem?_eq_some_iff.mp hx).1
    refine hs i x hx H1 sH (fun o H4 => match o with
      | some y => ∃ acc, H4 D = some (.lst acc) ∧ acc.length < sizeLine ∧ (i + 1 ≤ xs.length ∧ Same H (upd H4 D (.lst (acc ++ [y]))) ∧ ∃ us : List V, us.length = i + 1 ∧ (us.filterMap refOf).Nodup ∧ D ∉ us.filterMap refOf ∧ (∀ (j : Nat) v, us[j]? = some v → May (f j) H (upd H4 D (.lst (acc ++ [y]))) v) ∧ (upd H4 D (.lst (acc ++ [y]))) D = some (.lst us))
      | none => i + 1 ≤ xs.length ∧ Same H H4 ∧ ∃ us : List V, us.length = i + 1 ∧ (us.filterMap refOf).Nodup ∧ D ∉ us.filterMap refOf ∧ (∀ (j : Nat) v, us[j]? = some v → May (f j) H H4 v) ∧ H4 D = some (.lst us)) fun v H2 s2 m2 => ?_
    have old : ∀ (q : Addr) (u : HO), Fr H q → H1 q = some u → q ≠ D → (upd H2 D (.lst (us ++ [v]))) q = some u := fun q u _ e n => by
      rw [upd_ne n]; exact s2 _ _ e
    have inus : ∀ q, q ∈ us.filterMap refOf → ∃ u, Fr H q ∧ H1 q = some u := fun q m => by
      obtain ⟨w, hw, e⟩ := List.mem_filterMap.mp m
      obtain ⟨n, hn2, e2⟩ := List.getElem_of_mem hw
      rcases hq n w (by rw [List.getElem?_eq_getElem hn2, e2]) with ⟨q', u, _, rfl, fq, hq'⟩ | ⟨_, rfl⟩
      · cases e
        exact ⟨u, fq, hq'⟩
      · cases e
    refine ⟨us, s2 _ _ eD, ?_, hlt, fun b o e => ?_, us ++ [v], by rw [List.length_append, hl]; rfl, ?_, ?_, ?_, upd_same⟩
    · rw [hl]
      exact Nat.lt_of_le_of_lt (by omega : _ ≤ 100000) (by decide)
    · rw [upd_ne (ne_of_none e hD)]
      exact s2 _ _ (sH _ _ e)
    · rw [List.filterMap_append, List.nodup_append]
      refine ⟨hn, ?_, fun q1 m1 q2 m2' => ?_⟩
      · rcases m2 with ⟨q, u, _, rfl, _, _⟩ | ⟨_, rfl⟩
        · exact List.nodup_cons.mpr ⟨List.not_mem_nil, List.nodup_nil⟩
        · exact List.nodup_nil
      · rcases m2 with ⟨q, u, _, rfl, fq, _⟩ | ⟨_, rfl⟩
        · simp [refOf] at m2'
          subst m2'
          obtain ⟨w, _, hw⟩ := inus q1 m1
          intro e
          subst e
          rw [fq.out] at hw
          cases hw
        · simp [refOf] at m2'
    · intro m
      rw [List.filterMap_append] at m
      rcases List.mem_append.mp m with m | m
      · exact hDq m
      · rcases m2 with ⟨q, u, _, rfl, fq, _⟩ | ⟨_, rfl⟩
        · simp [refOf] at m
          subst m
          rw [fq.out] at eD
          cases eD
        · simp [refOf] at m
    · intro j w e
      by_cases hj : j < us.length
      · rw [List.getElem?_append_left hj] at e
        rcases hq j w e with ⟨q, u, e1, rfl, fq, hq'⟩ | ⟨e1, rfl⟩
        · refine .inl ⟨q, u, e1, rfl, fq, old q u fq hq' fun z => ?_⟩
          exact hDq (List.mem_filterMap.mpr ⟨_, List.mem_of_getElem? e, by rw [z]; rfl⟩)
        · exact .inr ⟨e1, rfl⟩
      · have hj2 : j = i := by
          have := (List.getElem?_eq_some_iff.mp e).1
          rw [List.length_append, List.length_singleton] at this
          omega
        subst hj2
        rw [← hl, List.getElem?_append_right (Nat.le_refl _), Nat.sub_self] at e
        cases e
        rcases m2 with ⟨q, u, e1, rfl, fq, hq'⟩ | ⟨e1, rfl⟩
        · refine .inl ⟨q, u, e1, rfl, fq.back sH, ?_⟩
          rw [upd_ne (ne_new fq eD)]
          exact hq'
        · exact .inr ⟨e1, rfl⟩
  · rintro H1 ⟨_, sH, us, hl, hn, hDq, hq, eD⟩
    exact k D us H1 ⟨hD⟩ sH hl hn hDq hq eD
end
/-- all of them, or None -/
def seqO {α : Type} : List (Option α) → Option (List α)
  | [] => some []
  | none :: _ => none
  | some a :: r => match seqO r with | some l => some (a :: l) | none => none
theorem seqO_some {α : Type} : ∀ {l : List (Option α)} {r : List α}, seqO l = some r → l = r.map some
  | [], r, h => by cases h; rfl
  | none :: _, r, h => by cases h
  | some a :: t, r, h => by
    unfold seqO at h
    cases e : seqO t with
    | none => rw [e] at h; cases h
    | some l => rw [e] at h; cases h; rw [seqO_some e]; rfl
theorem seqO_none {α : Type} : ∀ {l : List (Option α)}, seqO l = none → none ∈ l
  | [], h => by cases h
  | none :: _, h => List.mem_cons_self
  | some a :: t, h => by
    unfold seqO at h
    cases e : seqO t with
    | none => exact List.mem_cons_of_mem _ (seqO_none e)
    | some l => rw [e] at h; cases h
section
variable {K : PySem.W.Frag} {H : Hp} {Q : VK}
theorem inV_num : ∀ us : List (Option Int), inV .non (us.map numV) = us.any Option.isNone
  | [] => rfl
  | none :: us => by
    show (eqV .non .non || inV .non (us.map numV)) = (true || us.any Option.isNone)
    rw [show eqV .non .non = true from rfl, Bool.true_or, Bool.true_or]
  | some a :: us => by
    show (eqV (.int a) .non || inV .non (us.map numV)) = (false || us.any Option.isNone)
    rw [show eqV (.int a) .non = false from rfl, Bool.false_or, Bool.false_or, inV_num us]
theorem any_yes {us : List (Option Int)} (h : seqO us = none) : us.any Option.isNone = true := List.any_eq_true.mpr ⟨none, seqO_none h, rfl⟩
theorem any_no {us : List (Option Int)} {r : List Int} (h : seqO us = some r) : us.any Option.isNone = false := by
  rw [seqO_some h]
  induction r with
  | nil => rfl
  | cons a r ih => rw [List.map_cons, List.any_cons]; show (false || _) = false; rw [Bool.false_or]; exact List.any_eq_false.mpr fun x hx => by obtain ⟨y, _, rfl⟩ := List.mem_map.mp hx; exact Bool.false_ne_true
theorem o_innum {a : Addr} {us : List (Option Int)} {b : Bool} (h1 : H a = some (.lst (us.map numV))) (e : us.any Option.isNone = b) (k : Q (.bl b) H) : rIn K false .non (.ref a) H Q := by
  refine ⟨a, _, rfl, .inl (SqL.of h1), rfl, ?_, ?_⟩
  · rw [List.all_eq_true]
    intro v hv
    obtain ⟨u, _, rfl⟩ := List.mem_map.mp hv
    cases u <;> rfl
  · show Q (.bl (inV .non (us.map numV))) H
    rw [inV_num, e]
    exact k
theorem op_nnK {X : Cx} (hK : X.K = K) (hu : X.A.units + 64 < cLine) : OpR X (compareOp .In) (rNoneIn K false) := by subst hK; exact op_noneIn hu
end
/-! a square's text, read -/
def rowI (r : List Nat) : Option (List Int) := seqO ((TL.spl [32] 0 [] r).map numI)
def readS (l : List Nat) : Option (List (List Int)) := seqO ((TL.spl [59, 32] 0 [] l).map rowI)
theorem splitR (l : List Nat) : Txt.split (S l) (S [59, 32]) = (TL.spl [59, 32] 0 [] l).map S := SX.split_S (by decide) (by decide)
theorem splitW (l : List Nat) : Txt.split (S l) (S [32]) = (TL.spl [32] 0 [] l).map S := SX.split_S (by decide) (by decide)
def lstI (l : List Int) : HO := .lst (l.map V.int)
def dOf : Option (List Int) → PyData
  | none => .none
  | some l => .list (l.map PyData.int)
theorem may_dp {K : PySem.W.Frag} {H0 H : Hp} : ∀ {us : List V} {rs : List (Option (List Int))}, us.length = rs.length → (∀ (i : Nat) v, us[i]? = some v → May ((rs.getD i none).map lstI) H0 H v) → DpAll K H us (rs.map dOf)
  | [], [], _, _ => .nil
  | [], _ :: _, hl, _ => by simp at hl
  | _ :: _, [], hl, _ => by simp at hl
  | v :: us, r :: rs, hl, h => by
    refine .cons ?_ (may_dp (by simpa using hl) fun i w e => h (i + 1) w (by simpa using e))
    rcases h 0 v rfl with ⟨q, u, e, rfl, _, hq⟩ | ⟨e, rfl⟩
    · cases r with
      | none => cases e
      | some l => cases e; exact .lst (SqL.of hq) (dp_ints l)
    · cases r with
      | none => exact Dp.non
      | some l => cases e
theorem lay_dOf : ∀ rs : List (Option (List Int)), PyData.canLayAll0 (rs.map dOf) = true
  | [] => by simp [PyData.canLayAll0]
  | none :: rs => by simp [PyData.canLayAll0, PyData.canLay0, dOf, lay_dOf rs]
  | some l :: rs => by simp [PyData.canLayAll0, PyData.canLay0, dOf, lay_dOf rs, lay_ints l]
theorem depth_dOf : ∀ rs : List (Option (List Int)), PyData.depthAll (rs.map dOf) ≤ 2
  | [] => by simp [PyData.depthAll]
  | none :: rs => by
    have h1 := depth_dOf rs
    simp only [List.map_cons, PyData.depthAll, PyData.depth, dOf]
    omega
  | some l :: rs => by
    have h1 := depth_dOf rs
    have h2 := depth_ints l
    simp only [List.map_cons, PyData.depthAll, PyData.depth, dOf]
    omega
theorem shaped_dOf (rs : List (Option (List Int))) : SeqAt.shaped (.list (rs.map dOf)) = true := by
  have h1 := depth_dOf rs
  have h2 : PyData.depth (.list (rs.map dOf)) ≤ 64 := by
    simp only [PyData.depth]
    omega
  show (PyData.canLay0 (.list (rs.map dOf)) && decide (PyData.depth (.list (rs.map dOf)) ≤ 64)) = true
  rw [Bool.and_eq_true]
  exact ⟨by simp only [PyData.canLay0]; exact lay_dOf rs, decide_eq_true h2⟩
theorem any_dOf : ∀ rs : List (Option (List Int)), ((rs.map dOf).any fun z => PyData.eqv z .none) = rs.any Option.isNone
  | [] => rfl
  | none :: rs => by
    rw [List.map_cons, List.any_cons, List.any_cons, any_dOf rs]
    rfl
  | some l :: rs => by
    rw [List.map_cons, List.any_cons, List.any_cons, any_dOf rs]
    congr 1
theorem op_inDK {X : Cx} {K : PySem.W.Frag} (hK : X.K = K) (hu : X.A.units + 65 < cLine) : OpR X (compareOp .In) (rInD K) := by subst hK; exact op_inD hu
theorem o_inrows {K : PySem.W.Frag} {H : Hp} {Q : VK} {a : Addr} {us : List V} {rs : List (Option (List Int))} {b : Bool} (h1 : H a = some (.lst us)) (hd : DpAll K H us (rs.map dOf)) (e : rs.any Option.isNone = b) (k : Q (.bl b) H) : rInD K .non (.ref a) H Q :=
  ⟨.none, rs.map dOf, Dp.non, .lst (SqL.of h1) hd, rfl, shaped_dOf rs, by rw [any_dOf, e]; exact k⟩
theorem anyN_yes {α : Type} {us : List (Option α)} (h : seqO us = none) : us.any Option.isNone = true := List.any_eq_true.mpr ⟨none, seqO_none h, rfl⟩
theorem anyN_no {α : Type} {us : List (Option α)} {r : List α} (h : seqO us = some r) : us.any Option.isNone = false := by
  rw [seqO_some h]
  exact List.any_eq_false.mpr fun x hx => by obtain ⟨y, _, rfl⟩ := List.mem_map.mp hx; exact Bool.false_ne_true
/-- all rows are there -/
theorem may_rows {H0 H : Hp} : ∀ {us : List V} {nss : List (List Int)}, us.length = nss.length → (∀ (i : Nat) v, us[i]? = some v → May (((nss.map some).getD i none).map lstI) H0 H v) → ∃ qs : List Addr, us = qs.map V.ref ∧ Rows H qs nss ∧ us.filterMap refOf = qs ∧ ∀ q ∈ qs, Fr H0 q
  | [], [], _, _ => ⟨[], rfl, .nil, rfl, fun q h => (List.not_mem_nil h).elim⟩
  | [], _ :: _, hl, _ => by simp at hl
  | _ :: _, [], hl, _ => by simp at hl
  | v :: us, n :: nss, hl, h => by
    obtain ⟨qs, e1, e2, e3, e4⟩ := may_rows (us := us) (nss := nss) (by simpa using hl) fun i w e => h (i + 1) w (by simpa using e)
    rcases h 0 v rfl with ⟨q, u, e, rfl, fq, hq⟩ | ⟨e, rfl⟩
    · cases e
      refine ⟨q :: qs, by rw [e1]; rfl, .cons hq e2, by rw [List.filterMap_cons]; show q :: _ = _; rw [e3], fun q' m => ?_⟩
      rcases List.mem_cons.mp m with rfl | m
      · exact fq
      · exact e4 q' m
    · cases e
theorem units65 {k : Nat} {A : Around} (h : Room k A) : A.units + 65 < cLine := by have := h.un; omega
abbrev strS (w : List Nat) : V := .str (S w)
def wF : V → Option V
  | .str y => some (numV (numI y.cps.toList))
  | _ => none
theorem fm_words : ∀ ws : List (List Nat), (ws.map strS).filterMap wF = (ws.map numI).map numV
  | [] => rfl
  | w :: ws => by
    rw [List.map_cons, List.filterMap_cons]
    show numV (numI w) :: _ = _
    rw [fm_words ws]
    rfl
theorem getS {ws : List (List Nat)} {i : Nat} {v : V} (h : (ws.map strS)[i]? = some v) : ∃ w, ws[i]? = some w ∧ v = .str (S w) := by
  rw [List.getElem?_map] at h
  cases e : ws[i]? with
  | none => rw [e] at h; cases h
  | some w => rw [e] at h; cases h; exact ⟨w, rfl, rfl⟩
theorem o_splitS {H : Hp} {Q : VK} {x y : PySem.Str} {ws : List (List Nat)} (e : Txt.split x y = ws.map S) (h0 : (y.length == 0) = false) (hl : x.length ≤ 16000000) (k : ∀ p H', Fr H p → Same H H' → H' p = some (.lst (ws.map strS)) → Q (.ref p) H') : rSplit (.str x) [.str y] H Q :=
  o_split e h0 hl fun p H' f s h => k p H' f s (by rw [h, List.map_map]; rfl)
theorem May.back {o : Option HO} {H0 H1 H : Hp} {v : V} (s : Same H0 H1) (m : May o H1 H v) : May o H0 H v := by
  rcases m with ⟨q, u, e, rfl, f, h⟩ | m
  · exact .inl ⟨q, u, e, rfl, f.back s, h⟩
  · exact .inr m
theorem spl_len (T : List Nat) : ∀ (r : List Nat) (j : Nat) (acc : List Nat), (TL.spl T j acc r).length ≤ r.length + 1
  | [], j, acc => by rw [TL.spl_nil]; exact Nat.le_refl _
  | c :: r, 0, acc => by
    unfold TL.spl
    split
    · have := spl_len T r (T.length - 1) []
      rw [List.length_cons, List.length_cons]
      omega
    · have := spl_len T r 0 (acc ++ [c])
      rw [List.length_cons]
      omega
  | c :: r, j + 1, acc => by
    unfold TL.spl
    have := spl_len T r j acc
    rw [List.length_cons]
    omega
def nF : V → Option V
  | .non => some .non
  | _ => none
theorem fm_nF : ∀ us : List (Option Int), (us.map numV).filterMap nF = List.replicate (us.countP Option.isNone) V.non
  | [] => rfl
  | none :: us => by
    rw [List.map_cons, List.filterMap_cons, List.countP_cons]
    show V.non :: _ = _
    rw [fm_nF us]
    rfl
  | some a :: us => by
    rw [List.map_cons, List.filterMap_cons, List.countP_cons]
    show List.filterMap nF _ = _
    rw [fm_nF us]
    rfl
theorem fm_nF0 {us : List (Option Int)} {r : List Int} (h : seqO us = some r) : (us.map numV).filterMap nF = [] := by
  rw [fm_nF, List.countP_eq_zero.mpr]
  · rfl
  · intro u hu
    rw [seqO_some h] at hu
    obtain ⟨x, _, rfl⟩ := List.mem_map.mp hu
    exact Bool.false_ne_true
theorem fm_nF1 {us : List (Option Int)} (h : seqO us = none) : ∃ n, (us.map numV).filterMap nF = V.non :: List.replicate n V.non := by
  have : 0 < us.countP Option.isNone := List.countP_pos_iff.mpr ⟨none, seqO_none h, rfl⟩
  obtain ⟨n, hn⟩ : ∃ n, us.countP Option.isNone = n + 1 := ⟨us.countP Option.isNone - 1, by omega⟩
  exact ⟨n, by rw [fm_nF, hn, List.replicate_succ]⟩
theorem dp_nons {K : PySem.W.Frag} {H : Hp} : ∀ n, DpAll K H (List.replicate n V.non) (List.replicate n PyData.none)
  | 0 => .nil
  | n + 1 => .cons Dp.non (dp_nons n)
theorem shaped_nons (n : Nat) : SeqAt.shaped (.list (List.replicate n PyData.none)) = true := by
  have := shaped_dOf (List.replicate n none)
  rw [List.map_replicate] at this
  exact this
theorem o_nnons {K : PySem.W.Frag} {H : Hp} {Q : VK} {a b : Addr} {n : Nat} (h1 : H a = some (.lst (V.non :: List.replicate n V.non))) (h2 : H b = some (.lst [])) (k : Q (.bl true) H) : rNeD K (.ref a) (.ref b) H Q :=
  o_ne0 (d := PyData.none) (ds := List.replicate n PyData.none) h1 h2 (dp_nons (n + 1)) (shaped_nons (n + 1)) k
theorem seqO_app {α : Type} {x : α} : ∀ {l : List (Option α)} {r : List α}, seqO l = some r → seqO (l ++ [some x]) = some (r ++ [x])
  | [], r, h => by cases h; rfl
  | none :: _, r, h => by cases h
  | some a :: t, r, h => by
    unfold seqO at h
    cases e : seqO t with
    | none => rw [e] at h; cases h
    | some l =>
      rw [e] at h
      cases h
      rw [List.cons_append]
      unfold seqO
      rw [seqO_app e]
      rfl
theorem seqO_mem {α : Type} : ∀ {l : List (Option α)}, none ∈ l → seqO l = none
  | [], h => (List.not_mem_nil h).elim
  | none :: _, h => rfl
  | some a :: t, h => by
    have : none ∈ t := by
      rcases List.mem_cons.mp h with h | h
      · cases h
      · exact h
    unfold seqO
    rw [seqO_mem this]
theorem seqO_len {α : Type} {l : List (Option α)} {r : List α} (h : seqO l = some r) : r.length = l.length := by rw [seqO_some h, List.length_map]
theorem rows_mem {H : Hp} : ∀ {qs : List Addr} {nss : List (List Int)}, Rows H qs nss → ∀ q ∈ qs, ∃ ns : List Int, H q = some (.lst (ns.map V.int))
  | _, _, .nil, q, m => (List.not_mem_nil m).elim
  | _, _, .cons h r, q, m => by
    rcases List.mem_cons.mp m with rfl | m
    · exact ⟨_, h⟩
    · exact rows_mem r q m
theorem readS_len {l : List Nat} {nss : List (List Int)} (h : readS l = some nss) : nss.length ≤ l.length + 1 ∧ ∀ ns ∈ nss, ns.length ≤ l.length + 1 := by
  have h1 := seqO_len h
  rw [List.length_map] at h1
  refine ⟨by rw [h1]; exact spl_len _ _ _ _, fun ns m => ?_⟩
  have h2 : some ns ∈ (TL.spl [59, 32] 0 [] l).map rowI := by rw [seqO_some h]; exact List.mem_map.mpr ⟨ns, m, rfl⟩
  obtain ⟨w, hw, e⟩ := List.mem_map.mp h2
  have h3 := seqO_len e
  rw [List.length_map] at h3
  have h4 := spl_len [32] w 0 []
  obtain ⟨h5, _⟩ := spl_mem _ _ _ _ _ hw
  rw [List.length_nil] at h5
  omega
theorem nodup_take {qs : List Addr} (nd : qs.Nodup) {j : Nat} (hj : j < qs.length) : qs[j] ∉ qs.take j := fun m => by
  obtain ⟨i, hi, e⟩ := List.getElem_of_mem m
  rw [List.getElem_take] at e
  rw [List.length_take] at hi
  exact List.pairwise_iff_getElem.mp nd i j (by omega) hj (by omega) e
/-! joins of texts that can be compared -/
theorem joinL_mem {sep : List Nat} : ∀ {ys : List (List Nat)} {c : Nat}, c ∈ TL.joinL sep ys → c ∈ sep ∨ ∃ y ∈ ys, c ∈ y
  | [], c, h => (List.not_mem_nil h).elim
  | [y], c, h => .inr ⟨y, List.mem_cons_self, h⟩
  | y :: z :: ys, c, h => by
    have h2 : c ∈ y ++ (sep ++ TL.joinL sep (z :: ys)) := h
    rcases List.mem_append.mp h2 with m | m
    · exact .inr ⟨y, List.mem_cons_self, m⟩
    · rcases List.mem_append.mp m with m | m
      · exact .inl m
      · rcases joinL_mem m with m | ⟨u, hu, m⟩
        · exact .inl m
        · exact .inr ⟨u, List.mem_cons_of_mem _ hu, m⟩
theorem strs_S : ∀ xs : List PySem.Str, ∃ ys : List (List Nat), xs = ys.map S
  | [] => ⟨[], rfl⟩
  | x :: xs => by
    obtain ⟨ys, e⟩ := strs_S xs
    exact ⟨x.cps.toList :: ys, by rw [List.map_cons, ← e]⟩
theorem TK.join {a b : Nat} {sep : PySem.Str} {xs : List PySem.Str} (hs : TK b sep) (h : ∀ x ∈ xs, TK a x) : TK (xs.length * (a + b)) (Txt.join sep xs) := by
  refine ⟨?_, ?_⟩
  · have h1 := join_len sep xs
    have h2 := sum_le (n := a) xs fun x m => (h x m).len
    have h3 := Nat.mul_le_mul_left xs.length hs.len
    rw [Nat.mul_add]
    omega
  · obtain ⟨s, rfl, _, s2⟩ := hs.ex
    obtain ⟨ys, rfl⟩ := strs_S xs
    rw [show Txt.join (S s) (ys.map S) = S (TL.joinL s ys) from SX.join_S s ys]
    refine ok_S.mpr fun c hc => ?_
    rcases joinL_mem hc with m | ⟨y, hy, m⟩
    · exact s2 c m
    · exact ok_S.mp (h (S y) (List.mem_map.mpr ⟨y, hy, rfl⟩)).ok c m
/-! the text of a square is read back -/
theorem seqO_map {α : Type} : ∀ l : List α, seqO (l.map some) = some l
  | [] => rfl
  | a :: l => by
    rw [List.map_cons]
    unfold seqO
    rw [seqO_map l]
def rowL (ns : List Int) : List Nat := TL.joinL [32] (ns.map itx)
def squareL (nss : List (List Int)) : List Nat := TL.joinL [59, 32] (nss.map rowL)
theorem rowL_signs {ns : List Int} {c : Nat} (h : c ∈ rowL ns) : c = 32 ∨ c = 45 ∨ (48 ≤ c ∧ c ≤ 57) := by
  rcases joinL_mem h with m | ⟨y, hy, m⟩
  · exact .inl (List.mem_singleton.mp m)
  · obtain ⟨z, _, rfl⟩ := List.mem_map.mp hy
    exact .inr (itx_signs m)
theorem rowI_back {ns : List Int} (h0 : ns ≠ []) (hb : ∀ z ∈ ns, z.natAbs < 10 ^ 60) : rowI (rowL ns) = some ns := by
  unfold rowI rowL
  rw [SX.spl_join (c := 32) (sep := []) (by simpa using h0) (fun p m => by
    obtain ⟨z, _, rfl⟩ := List.mem_map.mp m
    exact itx_free (by decide) (.inl (by decide)))]
  have e : (ns.map itx).map numI = ns.map some := by
    rw [List.map_map]
    exact List.map_congr_left fun z m => numI_itx (hb z m)
  rw [e, seqO_map]
theorem readS_back {nss : List (List Int)} (h0 : nss ≠ []) (h1 : ∀ ns ∈ nss, ns ≠ []) (hb : ∀ ns ∈ nss, ∀ z ∈ ns, z.natAbs < 10 ^ 60) : readS (squareL nss) = some nss := by
  unfold readS squareL
  rw [SX.spl_join (c := 59) (sep := [32]) (by simpa using h0) (fun p m => by
    obtain ⟨ns, _, rfl⟩ := List.mem_map.mp m
    intro q
    have := rowL_signs q
    omega)]
  have e : (nss.map rowL).map rowI = nss.map some := by
    rw [List.map_map]
    exact List.map_congr_left fun ns m => rowI_back (h1 ns m) (hb ns m)
  rw [e, seqO_map]
theorem rowTx_S (ns : List Int) : rowTx ns = S (rowL ns) := by
  unfold rowTx rowL
  have e : ns.map tx = (ns.map itx).map S := by
    rw [List.map_map]
    exact List.map_congr_left fun z _ => tx_S z
  rw [e]
  exact SX.join_S [32] _
theorem rowsTx_S (nss : List (List Int)) : rowsTx nss = S (squareL nss) := by
  unfold rowsTx squareL
  have e : nss.map rowTx = (nss.map rowL).map S := by
    rw [List.map_map]
    exact List.map_congr_left fun z _ => rowTx_S z
  rw [e]
  exact SX.join_S [59, 32] _
/-! comprehensions over a range that may change tracked things: the new list is known -/
section
variable {H : Hp} {Q : VK} {g : TG} {tt : TT} {te : TE} {vs : List Nat} {σ : L2.St}
theorem lcr1_inv {j : Int} (Pv : Addr → Nat → List V → Hp → Prop) (b1 : -(2 ^ 62) ≤ j) (hz : j ≤ 100000)
    (h0 : ∀ D, Fr H D → ∀ H1, Same H H1 → H1 D = some (.lst []) → Pv D 0 [] H1)
    (hs : ∀ D, Fr H D → ∀ (i : Nat) acc H1, (i : Int) < j → acc.length = i → Pv D i acc H1 → H1 D = some (.lst acc) → ∀ Z : Option V → Hp → Prop,
      (∀ y H4, H4 D = some (.lst acc) → (∀ H5, SB D H4 H5 → H5 D = some (.lst (acc ++ [y])) → Pv D (i + 1) (acc ++ [y]) H5) → Z (some y) H4) → LcT g tt te vs σ (.int i) H1 Z)
    (k : ∀ D acc H', Fr H D → acc.length = j.toNat → Pv D j.toNat acc H' → H' D = some (.lst acc) → Q (.ref D) H') : LcR1 g tt te vs σ [.int j] H Q := by
  refine ⟨j, rfl, b1, by omega, fun D hD => lc_range (fun i H' => ∃ acc, acc.length = i ∧ i ≤ j.toNat ∧ Pv D i acc H' ∧ H' D = some (.lst acc)) ⟨[], rfl, Nat.zero_le _, h0 D ⟨hD⟩ _ (same_upd hD) upd_same, upd_same⟩ ?_ ?_⟩
  · rintro i H1 lt ⟨acc, al, il, pv, eD⟩
    rw [Int.zero_add]
    refine hs D ⟨hD⟩ i acc H1 (by omega) al pv eD (fun o H4 => match o with
      | some y => ∃ ac, H4 D = some (.lst ac) ∧ ac.length < sizeLine ∧ ∃ acc', acc'.length = i + 1 ∧ i + 1 ≤ j.toNat ∧ Pv D (i + 1) acc' (upd H4 D (.lst (ac ++ [y]))) ∧ (upd H4 D (.lst (ac ++ [y]))) D = some (.lst acc')
      | none => ∃ acc', acc'.length = i + 1 ∧ i + 1 ≤ j.toNat ∧ Pv D (i + 1) acc' H4 ∧ H4 D = some (.lst acc')) fun y H4 eD4 pv4 => ?_
    refine ⟨acc, eD4, ?_, acc ++ [y], by rw [List.length_append, al]; rfl, lt, pv4 _ sb_upd upd_same, upd_same⟩
    rw [al]
    exact Nat.lt_of_le_of_lt (by omega : _ ≤ 100000) (by decide)
  · rintro H1 ⟨acc, al, _, pv, eD⟩
    exact k D acc H1 ⟨hD⟩ al pv eD
/-- a comprehension whose items are new lists of ints drawn from a well -/
theorem lc_drawrows {p : Addr} {x y j : Int} (B : List Int → Prop) (b1 : -(2 ^ 62) ≤ j) (hz : j ≤ 100000) (h1 : Wel p H x y)
    (hs : ∀ (i : Nat) x y H1, (i : Int) < j → SB p H H1 → Wel p H1 x y → ∀ Z : Option V → Hp → Prop, (∀ q ds x' y' H2, Fr H1 q → B ds → SB p H1 H2 → Wel p H2 x' y' → H2 q = some (.lst (ds.map V.int)) → Z (some (.ref q)) H2) → LcT g tt te vs σ (.int i) H1 Z)
    (k : ∀ D qs nss x' y' H', Fr H D → nss.length = j.toNat → (∀ ns ∈ nss, B ns) → Rows H' qs nss → (∀ q ∈ qs, Fr H q) → SB p H H' → Wel p H' x' y' → H' D = some (.lst (qs.map V.ref)) → Q (.ref D) H') : LcR1 g tt te vs σ [.int j] H Q := by
  have pH : ∀ D, Fr H D → p ≠ D := fun D f e => by have := h1.at_; rw [e, f.out] at this; cases this
  refine lcr1_inv (fun D i acc H1 => ∃ (qs : List Addr) (nss : List (List Int)) (x y : Int), acc = qs.map V.ref ∧ nss.length = i ∧ (∀ ns ∈ nss, B ns) ∧ Rows H1 qs nss ∧ (∀ q ∈ qs, Fr H q ∧ q ≠ D ∧ q ≠ p) ∧ SB p H H1 ∧ Wel p H1 x y) b1 hz ?_ ?_ ?_
  · intro D fD H1 s e
    exact ⟨[], [], x, y, rfl, rfl, fun ns m => (List.not_mem_nil m).elim, .nil, fun q m => (List.not_mem_nil m).elim, SB.of s, ⟨s _ _ h1.at_, h1.x0, h1.y0, h1.y1⟩⟩
  · rintro D fD i acc H1 hi al ⟨qs, nss, u, v, rfl, nl, hb, rows, hq, s1, w⟩ eD Z kZ
    have pD := pH D fD
    refine hs i u v H1 hi s1 w Z fun q ds u' v' H2 fq bd s2 w2 hq2 => ?_
    have qD : q ≠ D := fun e => by rw [← e, fq.out] at eD; cases eD
    have qp : q ≠ p := fun e => by have := w.at_; rw [← e, fq.out] at this; cases this
    have fq0 : Fr H q := ⟨by
      cases e : H q with
      | none => rfl
      | some o => have := s1 _ _ qp e; rw [fq.out] at this; cases this⟩
    refine kZ _ _ (s2 _ _ pD.symm eD) fun H5 s5 e5 => ⟨qs ++ [q], nss ++ [ds], u', v', by rw [List.map_append]; rfl, by rw [List.length_append, nl]; rfl, fun ns m => ?_, Rows.snoc (s5 _ _ qD hq2) (rows.imp fun c m o h => s5 _ _ (hq c m).2.1 (s2 _ _ (hq c m).2.2 h)), fun c m => ?_, fun c o n h => ?_, ⟨s5 _ _ pD w2.at_, w2.x0, w2.y0, w2.y1⟩⟩
    · rcases List.mem_append.mp m with m | m
      · exact hb ns m
      · rw [List.mem_singleton.mp m]; exact bd
    · rcases List.mem_append.mp m with m | m
      · exact hq c m
      · rw [List.mem_singleton.mp m]; exact ⟨fq0, qD, qp⟩
    · exact s5 _ _ (fun e => by rw [e, fD.out] at h; cases h) (s2 _ _ n (s1 _ _ n h))
  · rintro D acc H' fD al ⟨qs, nss, u, v, rfl, nl, hb, rows, hq, s1, w⟩ eD
    exact k D qs nss u v H' fD nl hb rows (fun q m => (hq q m).1) s1 w eD
end
end L3

set_option Elab.async false
set_option linter.all false
set_option maxRecDepth 100000
set_option maxHeartbeats 2000000
/-! rows of texts; items put into lists. -/
namespace L3
open PySem L2 PyProof.Rows
/-- xs.insert(i, y) -/
def rInsert : V → List V → Hp → VK → Prop := fun x vs H Q => ∃ (l : Addr) (xs : List V) (i : Int) (y : V), x = .ref l ∧ vs = [.int i, y] ∧ H l = some (.lst xs) ∧ xs.length < sizeLine ∧ 0 ≤ i ∧ i < 2 ^ 63 ∧
    Q .non (upd H l (.lst (xs.take i.toNat ++ [y] ++ xs.drop i.toNat)))
theorem mt_ins {X : Cx} : MtR X "list.insert" rInsert := mt_insert
section
variable {H : Hp} {Q : VK} {K : PySem.W.Frag} {a : Addr} {xs : List V} {y v : V} {σ : L2.St} {te : TE} {g : TG} {tt : TT} {vs : List Nat}
theorem in_insert {i : Int} (h1 : H a = some (.lst xs)) (hz : xs.length < 100000) (h0 : 0 ≤ i) (hi : i < 2 ^ 62) (h : ∀ H', SB a H H' → H' a = some (.lst (xs.take i.toNat ++ [y] ++ xs.drop i.toNat)) → Q .non H') : rInsert (.ref a) [.int i, y] H Q :=
  ⟨a, xs, i, y, rfl, rfl, h1, Nat.lt_of_lt_of_le hz (by decide), h0, by omega, h _ sb_upd upd_same⟩
theorem s_seti {k : Int} (h1 : H a = some (.lst xs)) (k0 : 0 ≤ k) (k1 : k < xs.length) {Q : Hp → Prop} (h : ∀ H', SB a H H' → H' a = some (.lst (xs.set k.toNat v)) → Q H') : rSetL (.ref a) (.int k) v H Q := by
  have e : k = ((k.toNat : Nat) : Int) := by omega
  refine s_setl (n := k.toNat) h1 ?_ h
  rw [e]
  unfold ixN
  rw [if_pos (by omega), if_pos (by omega)]
/-- a comprehension whose items keep a promise -/
theorem lc_pred (P : V → Prop) (h1 : SqL K H a xs) (hz : xs.length ≤ 100000)
    (hs : ∀ x ∈ xs, ∀ H1, Same H H1 → ∀ R : Option V → Hp → Prop, (∀ y H2, P y → Same H1 H2 → R (some y) H2) → LcT g tt te vs σ x H1 R)
    (k : ∀ D acc H', Fr H D → Same H H' → acc.length = xs.length → (∀ y ∈ acc, P y) → H' D = some (.lst acc) → Q (.ref D) H') : LcL K g tt te vs σ (.ref a) H Q := by
  refine ⟨a, rfl, ⟨xs, h1⟩, fun D hD => lc_list (xs := xs) (fun i H' => i ≤ xs.length ∧ Same H H' ∧ ∃ acc, acc.length = i ∧ (∀ y ∈ acc, P y) ∧ H' D = some (.lst acc)) ⟨Nat.zero_le _, same_upd hD, [], rfl, fun y m => (List.not_mem_nil m).elim, upd_same⟩ (fun i H' _ q => q.2.1.seq h1) ?_ ?_⟩
  · rintro i x H1 hx ⟨hi, sH, acc, al, pa, eD⟩
    have hlt : i < xs.length := (List.getElem?_eq_some_iff.mp hx).1
    refine hs x (List.mem_of_getElem? hx) H1 sH (fun o H4 => match o with
      | some y => ∃ ac, H4 D = some (.lst ac) ∧ ac.length < sizeLine ∧ (i + 1 ≤ xs.length ∧ Same H (upd H4 D (.lst (ac ++ [y]))) ∧ ∃ acc, acc.length = i + 1 ∧ (∀ y ∈ acc, P y) ∧ (upd H4 D (.lst (ac ++ [y]))) D = some (.lst acc))
      | none => i + 1 ≤ xs.length ∧ Same H H4 ∧ ∃ acc, acc.length = i + 1 ∧ (∀ y ∈ acc, P y) ∧ H4 D = some (.lst acc)) fun y H2 py s2 => ?_
    refine ⟨acc, s2 _ _ eD, ?_, hlt, fun b o q => ?_, acc ++ [y], by rw [List.length_append, al]; rfl, fun z m => ?_, upd_same⟩
    · rw [al]
      exact Nat.lt_of_le_of_lt (by omega : _ ≤ 100000) (by decide)
    · rw [upd_ne (ne_of_none q hD)]
      exact s2 _ _ (sH _ _ q)
    · rcases List.mem_append.mp m with m | m
      · exact pa z m
      · rw [List.mem_singleton.mp m]; exact py
  · rintro H1 ⟨_, sH, acc, al, pa, eD⟩
    exact k D acc H1 ⟨hD⟩ sH al pa eD
/-- texts that were told one by one -/
theorem strs_of {n : Nat} : ∀ {acc : List V}, (∀ v ∈ acc, ∃ z, v = .str z ∧ TK n z) → ∃ ys : List PySem.Str, acc = ys.map V.str ∧ ∀ y ∈ ys, TK n y
  | [], _ => ⟨[], rfl, fun y m => (List.not_mem_nil m).elim⟩
  | v :: acc, h => by
    obtain ⟨z, rfl, hz⟩ := h v List.mem_cons_self
    obtain ⟨ys, e, hy⟩ := strs_of (acc := acc) fun w m => h w (List.mem_cons_of_mem _ m)
    refine ⟨z :: ys, by rw [e]; rfl, fun y m => ?_⟩
    rcases List.mem_cons.mp m with rfl | m
    · exact hz
    · exact hy y m
theorem TK.join_le {a b m : Nat} {sep : PySem.Str} {xs : List PySem.Str} (hs : TK b sep) (h : ∀ x ∈ xs, TK a x) (hm : xs.length ≤ m) : TK (m * (a + b)) (Txt.join sep xs) :=
  .mono (TK.join hs h) (Nat.mul_le_mul_right _ hm)
theorem o_joink {p : Addr} {x : PySem.Str} {acc : List V} {a b m : Nat} (h1 : H p = some (.lst acc)) (hx : TK b x) (h : ∀ v ∈ acc, ∃ z, v = .str z ∧ TK a z) (hm : acc.length ≤ m) (hc : m * (a + b) ≤ 16000000) (k : ∀ z, TK (m * (a + b)) z → Q (.str z) H) : rJoin K (.str x) [.ref p] H Q := by
  obtain ⟨ys, rfl, hy⟩ := strs_of h
  rw [List.length_map] at hm
  refine o_join h1 rfl ?_ (k _ (TK.join_le hx hy hm))
  have h2 := sum_le (n := a) ys fun y m => (hy y m).len
  have h3 := Nat.mul_le_mul_left ys.length hx.len
  have h4 := Nat.mul_le_mul_right (a + b) hm
  rw [Nat.mul_add] at h4
  omega
theorem TK.of1 {x : PySem.Str} (h1 : x.length = 1) (h2 : PyData.strOk x = true) : TK 1 x := ⟨Nat.le_of_eq h1, h2⟩
theorem TK.of2 {x : PySem.Str} (h1 : x.length = 2) (h2 : PyData.strOk x = true) : TK 2 x := ⟨Nat.le_of_eq h1, h2⟩
theorem TK.txn {i : Int} {n : Nat} (hn : 0 < n) (h : i.natAbs < 10 ^ n) : TK (n + 1) (L3.tx i) := by
  have e := TL.numL_len hn h
  rw [tx_S]
  refine .of ?_ fun c hc => ?_
  · unfold itx
    split
    · omega
    · rw [List.length_cons]; omega
  · have := itx_signs hc
    omega
theorem o_mul7k {k : Int} (k1 : 2 ≤ k) (k2 : k ≤ 360) (q : ∀ z, TK 360 z → Q (.str z) H) : rMulS (.str "7") (.int k) H Q :=
  o_mulk (x := S [55]) (.mono (.of (Nat.le_refl 1) (by simp)) (by decide)) (by rw [SX.S_len]; decide) k1 (by omega) (q _ (by
    have e : Txt.mul (S [55]) k = S (List.replicate k.toNat 55) := TL.ext_tl (PyProof.Rows.mul_one_list 55 k)
    rw [e]
    refine .of (by rw [List.length_replicate]; omega) fun d hd => ?_
    rw [List.eq_of_mem_replicate hd]
    decide))
/-- a comprehension that draws texts from a well -/
theorem lc_drawtx {p : Addr} {x y j : Int} (B : Nat) (b1 : -(2 ^ 62) ≤ j) (hz : j ≤ 100000) (h1 : Wel p H x y)
    (hs : ∀ (i : Nat) x y H1, (i : Int) < j → SB p H H1 → Wel p H1 x y → ∀ Z : Option V → Hp → Prop, (∀ r x' y' H2, TK B r → SB p H1 H2 → Wel p H2 x' y' → Z (some (.str r)) H2) → LcT g tt te vs σ (.int i) H1 Z)
    (k : ∀ D (ds : List PySem.Str) x' y' H', Fr H D → ds.length = j.toNat → (∀ z ∈ ds, TK B z) → SB p H H' → Wel p H' x' y' → H' D = some (.lst (ds.map V.str)) → Q (.ref D) H') : LcR1 g tt te vs σ [.int j] H Q := by
  refine lcr1_acc (fun i acc H1 => ∃ (ds : List PySem.Str) (x y : Int), acc = ds.map V.str ∧ (∀ z ∈ ds, TK B z) ∧ SB p H H1 ∧ Wel p H1 x y) b1 hz ⟨[], x, y, rfl, fun z h => (List.not_mem_nil h).elim, SB.refl _ _, h1⟩ ?_ ?_ ?_
  · rintro D hD i acc H1 H2 s2 ⟨ds, u, v, e, hb, s1, w⟩
    have pD : p ≠ D := fun e => by have := h1.at_; rw [e, hD] at this; cases this
    refine ⟨ds, u, v, e, hb, fun c o n hc => ?_, ⟨s2 _ _ pD w.at_, w.x0, w.y0, w.y1⟩⟩
    exact s2 _ _ (fun z => by rw [z, hD] at hc; cases hc) (s1 _ _ n hc)
  · rintro i acc H1 hi al ⟨ds, u, v, e, hb, s1, w⟩ Z kZ
    refine hs i u v H1 hi s1 w Z fun r u' v' H2 br s2 w2 => kZ _ _ (fun a o ha hc => ?_) ⟨ds ++ [r], u', v', by rw [e, List.map_append]; rfl, ?_, s1.trans s2, w2⟩
    · exact s2 _ _ (fun z => by rw [z, h1.at_] at ha; cases ha) hc
    · intro z hz
      rcases List.mem_append.mp hz with h | h
      · exact hb z h
      · rw [List.mem_singleton.mp h]; exact br
  · rintro D acc H' fD al ⟨ds, u, v, e, hb, s1, w⟩ hD
    subst e
    rw [List.length_map] at al
    exact k D ds u v H' fD al hb s1 w hD
end
/-- a list of one to five texts stands at each address -/
def TxA (H : Hp) (B : Nat) (qs : List Addr) : Prop := ∀ q ∈ qs, ∃ ws : List PySem.Str, H q = some (.lst (ws.map V.str)) ∧ 1 ≤ ws.length ∧ ws.length ≤ 5 ∧ ∀ w ∈ ws, TK B w
theorem TxA.imp {H H' : Hp} {B C : Nat} {qs : List Addr} (h : TxA H B qs) (hb : B ≤ C) (s : ∀ q ∈ qs, ∀ o, H q = some o → H' q = some o) : TxA H' C qs := fun q m => by
  obtain ⟨ws, h1, h2, h3, h4⟩ := h q m
  exact ⟨ws, s q m _ h1, h2, h3, fun w mw => (h4 w mw).mono hb⟩
theorem TxA.put {H : Hp} {B : Nat} {qs : List Addr} (h : TxA H B qs) {n : Nat} {q : Addr} {ws : List PySem.Str} (h1 : H q = some (.lst (ws.map V.str))) (h2 : 1 ≤ ws.length) (h3 : ws.length ≤ 5) (h4 : ∀ w ∈ ws, TK B w) : TxA H B (qs.take n ++ [q] ++ qs.drop n) := fun c m => by
  rcases List.mem_append.mp m with m | m
  · rcases List.mem_append.mp m with m | m
    · exact h c (List.mem_of_mem_take m)
    · rw [List.mem_singleton.mp m]; exact ⟨ws, h1, h2, h3, h4⟩
  · exact h c (List.mem_of_mem_drop m)
theorem TxA.snoc {H : Hp} {B : Nat} {qs : List Addr} (h : TxA H B qs) {q : Addr} {ws : List PySem.Str} (h1 : H q = some (.lst (ws.map V.str))) (h2 : 1 ≤ ws.length) (h3 : ws.length ≤ 5) (h4 : ∀ w ∈ ws, TK B w) : TxA H B (qs ++ [q]) := fun c m => by
  rcases List.mem_append.mp m with m | m
  · exact h c m
  · rw [List.mem_singleton.mp m]; exact ⟨ws, h1, h2, h3, h4⟩
theorem TxA.set {H H' : Hp} {B : Nat} {qs : List Addr} (h : TxA H B qs) {q : Addr} {ws : List PySem.Str} {n : Nat} {z : PySem.Str} (s : SB q H H') (h1 : H' q = some (.lst ((ws.map V.str).set n (.str z)))) (h2 : 1 ≤ ws.length) (h3 : ws.length ≤ 5) (h4 : ∀ w ∈ ws, TK B w) (hz : TK B z) : TxA H' B qs := fun c m => by
  by_cases e : c = q
  · subst e
    refine ⟨ws.set n z, by rw [h1, List.map_set], by rw [List.length_set]; exact h2, by rw [List.length_set]; exact h3, fun w mw => ?_⟩
    rcases List.mem_or_eq_of_mem_set mw with m | rfl
    · exact h4 w m
    · exact hz
  · obtain ⟨us, g1, g2, g3, g4⟩ := h c m
    exact ⟨us, s _ _ e g1, g2, g3, g4⟩
theorem fr_bk {p O : Addr} {H H1 : Hp} {o : HO} (s : SB p H H1) (h : Fr H1 O) (hp : H1 p = some o) : Fr H O := ⟨by
  cases e : H O with
  | none => rfl
  | some u =>
    by_cases z : O = p
    · rw [z] at h; rw [h.out] at hp; cases hp
    · have := s _ _ z e
      rw [h.out] at this
      cases this⟩
theorem SB.skip {p D : Addr} {H H1 H2 : Hp} (a : SB p H H1) (f : Fr H D) (s : SB D H1 H2) : SB p H H2 := fun c o n h => s _ _ (fun e => by rw [e, f.out] at h; cases h) (a _ _ n h)
/-! wide squares -/
def Fin2 (nss : List (List Int)) : Prop := nss.length ≤ 200 ∧ ∀ ns ∈ nss, ns.length ≤ 200 ∧ ∀ z ∈ ns, z.natAbs < 10 ^ 60
theorem tx_le60 {i : Int} (h : i.natAbs < 10 ^ 60) : (tx i).length ≤ 61 := (TK.txn (n := 60) (by decide) h).len
theorem row_cost2 {ns : List Int} (hl : ns.length ≤ 200) (hb : ∀ z ∈ ns, z.natAbs < 10 ^ 60) : ((ns.map tx).map (·.length)).sum + (ns.map tx).length * (" " : PySem.Str).length ≤ 12400 := by
  have h1 := sum_le (n := 61) (ns.map tx) (fun x m => by obtain ⟨z, hz, rfl⟩ := List.mem_map.mp m; exact tx_le60 (hb z hz))
  rw [List.length_map] at h1 ⊢
  have e : (" " : PySem.Str).length = 1 := by decide +kernel
  rw [e]
  omega
theorem rows_cost2 {nss : List (List Int)} (h : Fin2 nss) : ((nss.map rowTx).map (·.length)).sum + (nss.map rowTx).length * ("; " : PySem.Str).length ≤ 3100000 := by
  have h1 := sum_le (n := 12400) (nss.map rowTx) (fun x m => by obtain ⟨z, hz, rfl⟩ := List.mem_map.mp m; exact Nat.le_trans (join_len _ _) (row_cost2 (h.2 z hz).1 (h.2 z hz).2))
  rw [List.length_map] at h1 ⊢
  have e : ("; " : PySem.Str).length = 2 := by decide +kernel
  have := h.1
  rw [e]
  omega
/-- the signs of a square of small numbers -/
theorem small_len {nss : List (List Int)} (h1 : nss.length ≤ 80) (h2 : ∀ ns ∈ nss, ns.length ≤ 200) (h3 : ∀ ns ∈ nss, ∀ z ∈ ns, z.natAbs < 10 ^ 3) : (squareL nss).length ≤ 90000 := by
  have e1 : ∀ ns ∈ nss, TK 1000 (rowTx ns) := fun ns m => by
    refine .mono (TK.join_le (a := 4) (b := 1) (m := 200) ⟨by decide +kernel, by decide +kernel⟩ (fun x mx => ?_) (by rw [List.length_map]; exact h2 ns m)) (by decide)
    obtain ⟨z, hz, rfl⟩ := List.mem_map.mp mx
    exact TK.txn (n := 3) (by decide) (h3 ns m z hz)
  have e2 : TK (80 * (1000 + 2)) (rowsTx nss) := by
    refine TK.join_le (a := 1000) (b := 2) (m := 80) ⟨by decide +kernel, by decide +kernel⟩ (fun x mx => ?_) (by rw [List.length_map]; exact h1)
    obtain ⟨ns, hn, rfl⟩ := List.mem_map.mp mx
    exact e1 ns hn
  have e3 := e2.len
  rw [rowsTx_S, SX.S_len] at e3
  omega
end L3

set_option Elab.async false
set_option linter.all false
set_option maxRecDepth 100000
set_option maxHeartbeats 2000000
/-! the sum of a range; sums of remainders at small sizes. -/
namespace L3
open PySem L2 PySem.Spec PyProof.Rows
theorem sum_range {prog : Program} {w : World} {A : Around} {E : Value → Shared → Prop} {s : Shared} {r : Addr} {a b : Int} {t u v : Tok} {n : Nat} {Q : Value → Shared → Prop} (hh : A.handled = none)
    (hr : IsRange s.heap r a b 1 t u v) (hs : Builtin.Range.small a b 1 = true) (hn : Builtin.Range.rangeSize a b 1 = n)
    (h : ∀ h' tk t', (∀ c o, s.heap.get? c = some o → h'.get? c = some o) → Q (.int (preSum (fun i => a + (i : Int) * 1) n) t') { s with heap := h', toks := tk }) :
    wpAny (model prog w) A (call (.builtin "sum") [.ref r]) Q E s := by
  have hh1 : A.in1.handled = none := hh
  have W := (Walks.range (prog := prog) (w := w) (A := A.in1) hh1 s.heap.objs.size a 1 n).toS
  refine call_sum_walkAnyS (wpAny_pyIter_range hr hs ?_)
  refine ⟨s.heap.objs.size, _, _, _, _, _, _, fun i => a + (i : Int) * 1, rfl, W, ?_, fun c hc => ?_, fun i x hP => hP, fun s' t' hm => ?_⟩
  · have e1 : a + ((0 : Nat) : Int) * 1 = a := by omega
    have e2 : (n : Int) - ((0 : Nat) : Int) = (n : Int) := by omega
    show IsRangeIter _ _ (a + ((0 : Nat) : Int) * 1) ((n : Int) - ((0 : Nat) : Int)) 1
    rw [e1, e2, hn]
    exact Heap.get?_push_size _ rfl
  · obtain rfl := List.mem_singleton.mp hc
    exact Heap.lt_size (Heap.get?_push_size _ rfl)
  · obtain ⟨h', g', d', tk', os'⟩ := s'
    have e1 : g' = s.gens := hm.gens
    have e2 : d' = s.drawn := hm.drawn
    have e3 : os' = s.os := hm.os
    subst e1 e2 e3
    exact h h' tk' t' fun c o e => hm.heap c o (fun hb => absurd (Heap.lt_size e) ((List.mem_singleton.mp hb) ▸ Nat.lt_irrefl _)) (Heap.get?_push_of_some _ e)
section
variable {X : Cx} {e : Expr} {te : L2.St → Hp → (Int → Int → Hp → Prop) → Prop}
def tSumRg (te : L2.St → Hp → (Int → Int → Hp → Prop) → Prop) : TE := fun σ H Q => te σ H fun a b H1 => RgOk a b ∧ Q (.int (preSum (fun i => a + (i : Int) * 1) (b - a).toNat)) H1
theorem pe_sumRg {p pos : Pos} (hc : X.calm = true) (hg : Gl X "sum") (hm : X.mg "sum" = none) (he : PRg X e te) (na : starEach [e] X.env = (false, eval e X.env) :: starEach [] X.env := by rfl) (hp : (backTo pos (starEach [] X.env)).any (·.1) = false := by rfl) : PE X (.Call (.Name "sum" p) [e] [] pos) (tSumRg te) := by
  refine ⟨fun pins s σ H Q I h => ?_⟩
  refine Call_ (ld_blt I hg hm boot_sum (PyProof.Rows.callWith_builtin1 (args_cons (thn (he pins s σ H _ I h) fun x s1 ⟨r, a, b, t, u, v, H1, ex, hr, I1, ok, q⟩ => args_nil ?_) na) na hp))
  subst ex
  obtain ⟨b1, b2, b3, b4, b5⟩ := ok
  exact sum_range (n := (b - a).toNat) (I1.ok.hd hc) hr (small_one b1 b2 b3 b4) (rangeSize_nat a b) fun h' tk t' hk => ⟨.int (preSum (fun i => a + (i : Int) * 1) (b - a).toNat), H1, I1.kept hk, ⟨t', rfl⟩, q⟩
end
section
variable {H : Hp} {Q : VK} {σ : L2.St} {te : L2.St → Hp → (Int → Int → Hp → Prop) → Prop} {ta tb : TE}
def SumR (Q : VK) (a b : Int) (H1 : Hp) : Prop := RgOk a b ∧ Q (.int (preSum (fun i => a + (i : Int) * 1) (b - a).toNat)) H1
theorem g_sumrg (h : te σ H (SumR Q)) : tSumRg te σ H Q := h
def Rg2R (tb : TE) (σ : L2.St) (R : Int → Int → Hp → Prop) (x : V) (H : Hp) : Prop := tb σ H fun y H2 => ∃ i j, x = .int i ∧ y = .int j ∧ R i j H2
theorem g_rg2 {R : Int → Int → Hp → Prop} (h : ta σ H fun x H1 => Rg2R tb σ R x H1) : tRg2 ta tb σ H R := h
def Rg2S (R : Int → Int → Hp → Prop) (x y : V) (H : Hp) : Prop := ∃ i j, x = .int i ∧ y = .int j ∧ R i j H
theorem g_rg2s {R : Int → Int → Hp → Prop} {x : V} (h : tb σ H fun y H2 => Rg2S R x y H2) : Rg2R tb σ R x H := h
theorem rg2_at {i j z : Int} (h : RgOk i j) (e : preSum (fun k => i + (k : Int) * 1) (j - i).toNat = z) (k : Q (.int z) H) : Rg2S (SumR Q) (.int i) (.int j) H := ⟨i, j, rfl, rfl, h, by rw [e]; exact k⟩
end
theorem preSum_one : ∀ n : Nat, 2 * preSum (fun k => (1 : Int) + (k : Int) * 1) n = (n : Int) * (n + 1)
  | 0 => rfl
  | n + 1 => by
    have h := preSum_one n
    show 2 * (preSum (fun k => (1 : Int) + (k : Int) * 1) n + (1 + (n : Int) * 1)) = _
    push_cast
    grind
/-! the signs along a line, walked -/
def psN (n v s : Nat) : Nat → Nat
  | 0 => 0
  | k + 1 => psN n v s k + (v + k * s) % n
def psZ (n v s : Int) : Nat → Int
  | 0 => 0
  | k + 1 => psZ n v s k + (v + k * s) % n
theorem psN_all : ∀ n : Fin 13, ∀ v : Fin 13, ∀ s : Fin 13, 1 ≤ n.val → psN n.val v.val s.val n.val = n.val * (v.val % Nat.gcd s.val n.val) + n.val * (n.val - Nat.gcd s.val n.val) / 2 := by decide +kernel
theorem psZ_nat (n v s : Nat) : ∀ k, psZ n v s k = ((psN n v s k : Nat) : Int)
  | 0 => rfl
  | k + 1 => by
    show psZ n v s k + ((v : Int) + (k : Int) * (s : Int)) % (n : Int) = ((psN n v s k + (v + k * s) % n : Nat) : Int)
    rw [psZ_nat n v s k]
    push_cast
    rfl
theorem psZ_mod (n v s : Int) : ∀ k, psZ n v s k = psZ n (v % n) (s % n) k
  | 0 => rfl
  | k + 1 => by
    show psZ n v s k + (v + (k : Int) * s) % n = psZ n (v % n) (s % n) k + (v % n + (k : Int) * (s % n)) % n
    rw [psZ_mod n v s k]
    congr 1
    have e1 := Int.emod_add_mul_ediv v n
    have e2 := Int.emod_add_mul_ediv s n
    have e3 : v + (k : Int) * s = (v % n + (k : Int) * (s % n)) + n * (v / n + (k : Int) * (s / n)) := by grind
    rw [e3, Int.add_mul_emod_self_left]
/-- the sum of the signs of a line at a small size -/
theorem psZ_sum {n v s : Int} (h1 : 1 ≤ n) (h2 : n ≤ 12) : psZ n v s n.toNat = n * (v % gcdZ s n) + n * (n - gcdZ s n) / 2 := by
  obtain ⟨N, rfl⟩ : ∃ N : Nat, n = N := ⟨n.toNat, by omega⟩
  have hv0 := Int.emod_nonneg v (show (N : Int) ≠ 0 by omega)
  have hv1 := Int.emod_lt_of_pos v (show (0 : Int) < N by omega)
  have hs0 := Int.emod_nonneg s (show (N : Int) ≠ 0 by omega)
  have hs1 := Int.emod_lt_of_pos s (show (0 : Int) < N by omega)
  have eg : gcdZ s N = gcdZ (s % N) N := by
    have g1 : gcdZ s N ∣ gcdZ (s % N) N := gcdZ_greatest (by
      have : s % N = s - N * (s / N) := by have := Int.emod_add_mul_ediv s N; omega
      rw [this]
      exact Int.dvd_sub (gcdZ_dl _ _) (Int.dvd_mul_of_dvd_left (gcdZ_dr _ _))) (gcdZ_dr _ _)
    have g2 : gcdZ (s % N) N ∣ gcdZ s N := gcdZ_greatest (by
      have : s = s % N + N * (s / N) := by have := Int.emod_add_mul_ediv s N; omega
      rw [this]
      refine Int.dvd_add ?_ (Int.dvd_mul_of_dvd_left (gcdZ_dr _ _))
      rw [← this]
      exact gcdZ_dl _ _) (gcdZ_dr _ _)
    have p1 := gcdZ_pos (t := s) h1
    have p2 := gcdZ_pos (t := s % N) h1
    exact Int.dvd_antisymm (by omega) (by omega) g1 g2
  have ev : v % gcdZ s N = (v % N) % gcdZ s N := by rw [Int.emod_emod_of_dvd _ (gcdZ_dr _ _)]
  rw [ev, eg, psZ_mod]
  obtain ⟨V, hV⟩ : ∃ V : Nat, v % N = V := ⟨(v % N).toNat, by omega⟩
  obtain ⟨S, hS⟩ : ∃ S : Nat, s % N = S := ⟨(s % N).toNat, by omega⟩
  rw [hV, hS, Int.toNat_natCast, psZ_nat]
  have key := psN_all ⟨N, by omega⟩ ⟨V, by omega⟩ ⟨S, by omega⟩ (by show 1 ≤ N; omega)
  have key2 : psN N V S N = N * (V % Nat.gcd S N) + N * (N - Nat.gcd S N) / 2 := key
  rw [key2]
  have eg2 : gcdZ (S : Int) N = ((Nat.gcd S N : Nat) : Int) := by
    unfold gcdZ
    simp [Int.natAbs_natCast]
  have gl : Nat.gcd S N ≤ N := Nat.gcd_le_right _ (by omega)
  rw [eg2]
  generalize Nat.gcd S N = g at *
  push_cast [gl]
  rfl
end L3

set_option Elab.async false
set_option linter.all false
set_option maxRecDepth 100000
set_option maxHeartbeats 2000000
/-! comprehensions over zips whose items are new lists; squares of numbers. -/
namespace L3
open PySem L2 PyProof.Rows
section
variable {K : PySem.W.Frag} {H : Hp} {Q : VK} {g : TG} {tt : TT} {te : TE} {vs : List Nat} {σ : L2.St} {a b : Addr} {xs ys : List V}
theorem lcz_rows (F : Nat → List V) (h1 : H a = some (.lst xs)) (h2 : H b = some (.lst ys)) (hl : xs.length = ys.length) (hz : xs.length ≤ 100000)
    (hs : ∀ (i : Nat) x y, xs[i]? = some x → ys[i]? = some y → ∀ T H1, Same H H1 → H1 T = some (.tup [x, y]) → ∀ Z : Option V → Hp → Prop, (∀ q H2, Fr H1 q → Same H1 H2 → H2 q = some (.lst (F i)) → Z (some (.ref q)) H2) → LcT g tt te vs σ (.ref T) H1 Z)
    (k : ∀ D (qs : List Addr) H', Fr H D → Same H H' → qs.length = xs.length → qs.Nodup → D ∉ qs → (∀ q ∈ qs, Fr H q) → (∀ (i : Nat) q, qs[i]? = some q → H' q = some (.lst (F i))) → H' D = some (.lst (qs.map V.ref)) → Q (.ref D) H') : LcZ K g tt te vs σ [.ref a, .ref b] H Q := by
  refine ⟨a, b, xs, ys, rfl, SqL.of h1, SqL.of h2, fun D hD => lc_it (walk_zip (xs := xs) (ys := ys) (n := xs.length) (by omega)) (fun i H' => i ≤ xs.length ∧ Same H H' ∧ ∃ qs : List Addr, qs.length = i ∧ qs.Nodup ∧ D ∉ qs ∧ (∀ q ∈ qs, Fr H q) ∧ (∀ (k : Nat) q, qs[k]? = some q → H' q = some (.lst (F k))) ∧ H' D = some (.lst (qs.map V.ref)))
    ⟨Nat.zero_le _, same_upd hD, [], rfl, List.nodup_nil, List.not_mem_nil, fun q h => absurd h List.not_mem_nil, fun k q h => by simp at h, upd_same⟩ (fun i H' _ q => ⟨SqL.of (q.2.1 _ _ h1), SqL.of (q.2.1 _ _ h2)⟩) ?_ ?_⟩
  · rintro i v H0 H1' hi ⟨_, sH0, qs, hl2, hn, hDq, hf, hq0, eD0⟩ ⟨T, x, y, rfl, hT, rfl, hx, hy⟩
    have sT : Same H0 (upd H0 T (.tup [x, y])) := same_upd hT
    have sH := sH0.trans sT
    have eD := sT _ _ eD0
    have hq : ∀ (k : Nat) q, qs[k]? = some q → (upd H0 T (.tup [x, y])) q = some (.lst (F k)) := fun k q e => sT _ _ (hq0 k q e)
    refine hs i x y hx hy T _ sH upd_same (fun o H4 => match o with
      | some y => ∃ acc, H4 D = some (.lst acc) ∧ acc.length < sizeLine ∧ (i + 1 ≤ xs.length ∧ Same H (upd H4 D (.lst (acc ++ [y]))) ∧ ∃ qs : List Addr, qs.length = i + 1 ∧ qs.Nodup ∧ D ∉ qs ∧ (∀ q ∈ qs, Fr H q) ∧ (∀ (k : Nat) q, qs[k]? = some q → (upd H4 D (.lst (acc ++ [y]))) q = some (.lst (F k))) ∧ (upd H4 D (.lst (acc ++ [y]))) D = some (.lst (qs.map V.ref)))
      | none => i + 1 ≤ xs.length ∧ Same H H4 ∧ ∃ qs : List Addr, qs.length = i + 1 ∧ qs.Nodup ∧ D ∉ qs ∧ (∀ q ∈ qs, Fr H q) ∧ (∀ (k : Nat) q, qs[k]? = some q → H4 q = some (.lst (F k))) ∧ H4 D = some (.lst (qs.map V.ref))) fun q H2 fq s2 hq2 => ?_
    have qD : q ≠ D := ne_new fq eD
    have qn : q ∉ qs := fun m => by
      obtain ⟨n, hn2, e⟩ := List.getElem_of_mem m
      have e2 : qs[n]? = some q := by rw [List.getElem?_eq_getElem hn2, e]
      exact ne_new fq (hq n q e2) rfl
    refine ⟨qs.map V.ref, s2 _ _ eD, ?_, hi, fun b o e => ?_, qs ++ [q], by rw [List.length_append, hl2]; rfl, ?_, ?_, ?_, ?_, by rw [upd_same, List.map_append]; rfl⟩
    · rw [List.length_map, hl2]
      exact Nat.lt_of_le_of_lt (by omega : _ ≤ 100000) (by decide)
    · rw [upd_ne (ne_of_none e hD)]
      exact s2 _ _ (sH _ _ e)
    · rw [List.nodup_append]
      exact ⟨hn, by simp, fun a ha b hb => by simp at hb; subst hb; intro e; subst e; exact qn ha⟩
    · intro m
      rcases List.mem_append.mp m with m | m
      · exact hDq m
      · simp at m; exact qD m.symm
    · intro q' m
      rcases List.mem_append.mp m with m | m
      · exact hf q' m
      · simp at m; subst m; exact fq.back sH
    · intro n q' e
      have ne : q' ≠ D := fun z => by
        subst z
        rcases List.mem_append.mp (List.mem_of_getElem? e) with m | m
        · exact hDq m
        · simp at m; exact qD m.symm
      rw [upd_ne ne]
      by_cases hlt2 : n < qs.length
      · rw [List.getElem?_append_left hlt2] at e
        exact s2 _ _ (hq n q' e)
      · rw [List.getElem?_append_right (by omega)] at e
        have hn0 : n - qs.length = 0 := by
          have := (List.getElem?_eq_some_iff.mp e).1
          simp at this
          omega
        rw [hn0] at e
        simp at e
        subst e
        have : n = i := by omega
        subst this
        exact hq2
  · rintro H1 ⟨_, sH, qs, hl2, hn, hDq, hf, hq, eD⟩
    exact k D qs H1 ⟨hD⟩ sH hl2 hn hDq hf hq eD
end
theorem rows_of {H : Hp} (f : Nat → List Int) : ∀ (qs : List Addr) (s : Nat), (∀ (i : Nat) q, qs[i]? = some q → H q = some (.lst ((f (s + i)).map V.int))) → Rows H qs ((List.range' s qs.length).map f)
  | [], s, _ => .nil
  | q :: qs, s, h => by
    rw [List.length_cons, List.range'_succ, List.map_cons]
    exact .cons (h 0 q rfl) (rows_of f qs (s + 1) fun i c e => by have := h (i + 1) c (by simpa using e); rw [show s + 1 + i = s + (i + 1) by omega]; exact this)
theorem rows_of0 {H : Hp} {f : Nat → List Int} {qs : List Addr} {n : Nat} (hl : qs.length = n) (h : ∀ (i : Nat) q, qs[i]? = some q → H q = some (.lst ((f i).map V.int))) : Rows H qs ((List.range n).map f) := by
  have := rows_of (H := H) f qs 0 (fun i q e => by rw [Nat.zero_add]; exact h i q e)
  rw [hl, ← List.range_eq_range'] at this
  exact this
/-- the number in a cell -/
def nmZ (n a b d a2 b2 d2 : Int) (i j : Int) : Int := n * ((a * i + b * j + d) % n) + (a2 * i + b2 * j + d2) % n + 1
def nRow (n a b d a2 b2 d2 : Int) (i : Nat) : List Int := (List.range n.toNat).map fun j : Nat => nmZ n a b d a2 b2 d2 i j
def nSq (n a b d a2 b2 d2 : Int) : List (List Int) := (List.range n.toNat).map (nRow n a b d a2 b2 d2)
theorem nRow_len {n a b d a2 b2 d2 : Int} {i : Nat} : (nRow n a b d a2 b2 d2 i).length = n.toNat := by unfold nRow; rw [List.length_map, List.length_range]
theorem nRow_cons {n a b d a2 b2 d2 : Int} {i : Nat} (h : 1 ≤ n) : ∃ x, nRow n a b d a2 b2 d2 i = x :: (nRow n a b d a2 b2 d2 i).tail := by
  cases e : nRow n a b d a2 b2 d2 i with
  | nil => have := nRow_len (n := n) (a := a) (b := b) (d := d) (a2 := a2) (b2 := b2) (d2 := d2) (i := i); rw [e] at this; simp at this; omega
  | cons x r => exact ⟨x, rfl⟩
theorem shaped_told (nss : List (List Int)) : SeqAt.shaped (.list [.str "told", .list (nss.map fun ns => PyData.list (ns.map PyData.int))]) = true := by
  have h1 := depth_rows nss
  have h2 : PyData.depth (.list [.str "told", .list (nss.map fun ns => PyData.list (ns.map PyData.int))]) ≤ 64 := by
    simp only [PyData.depth, PyData.depthAll]
    omega
  show (PyData.canLay0 (.list [.str "told", .list (nss.map fun ns => PyData.list (ns.map PyData.int))]) && decide (PyData.depth (.list [.str "told", .list (nss.map fun ns => PyData.list (ns.map PyData.int))]) ≤ 64)) = true
  rw [Bool.and_eq_true]
  refine ⟨?_, decide_eq_true h2⟩
  have h3 : PyData.strOk "told" = true := by decide +kernel
  simp only [PyData.canLay0, PyData.canLayAll0, lay_rows nss, h3, Bool.and_self]
theorem o_nelI {K : PySem.W.Frag} {H : Hp} {Q : VK} {a b : Addr} {ns ms : List Int} (h1 : H a = some (.lst (ns.map V.int))) (h2 : H b = some (.lst (ms.map V.int))) (e : ns = ms) (k : Q (.bl false) H) : rNeD K (.ref a) (.ref b) H Q := by
  subst e
  refine o_ned (d := .list (ns.map PyData.int)) (.lst (SqL.of h1) (dp_ints ns)) (.lst (SqL.of h2) (dp_ints ns)) ?_ k
  have h3 := depth_ints ns
  have h4 : PyData.depth (.list (ns.map PyData.int)) ≤ 64 := by
    simp only [PyData.depth]
    omega
  show (PyData.canLay0 (.list (ns.map PyData.int)) && decide (PyData.depth (.list (ns.map PyData.int)) ≤ 64)) = true
  rw [Bool.and_eq_true]
  exact ⟨by simp only [PyData.canLay0]; exact lay_ints ns, decide_eq_true h4⟩
theorem cutV_tail {ns : List Int} (h : ns ≠ []) : cutV (ns.map V.int) (some 1) none = ns.tail.map V.int := by
  cases ns with
  | nil => exact absurd rfl h
  | cons x r =>
    unfold cutV HT.sIx
    simp
    rw [List.take_of_length_le (by rw [List.length_map]; exact Nat.le_refl _)]
end L3

set_option Elab.async false
set_option linter.all false
set_option maxRecDepth 100000
set_option maxHeartbeats 2000000
/-! the cells in which two rules have two signs: listed, and counted. -/
namespace L3
open PySem L2 PyProof.Rows
/-- somewhat greater ints -/
@[irreducible] def Bi2 (i : Int) : Prop := Builtin.Int.intBits i ≤ 1048600
theorem bits_lt {i : Int} {n : Nat} (h : Builtin.Int.intBits i ≤ n) : i.natAbs < 2 ^ n := by
  unfold Builtin.Int.intBits at h
  by_cases z : i = 0
  · subst z; exact Nat.pow_pos (by decide)
  · have zb : (i == 0) = false := by simpa using z
    rw [zb] at h
    have h : i.natAbs.log2 + 1 ≤ n := h
    exact Nat.lt_of_lt_of_le (Nat.lt_log2_self) (Nat.pow_le_pow_right (by decide) h)
theorem bits_of {i : Int} {n : Nat} (h : i.natAbs < 2 ^ n) : Builtin.Int.intBits i ≤ n := by
  unfold Builtin.Int.intBits
  by_cases z : i = 0
  · subst z; exact Nat.zero_le _
  · have zb : (i == 0) = false := by simpa using z
    rw [zb]
    show i.natAbs.log2 + 1 ≤ n
    have : i.natAbs ≠ 0 := by omega
    exact (Nat.log2_lt this).mpr h
theorem Bi2.of_big {i : Int} (h : Big i) : Bi2 i := by
  unfold Big at h
  unfold Bi2
  omega
theorem Bi2.mul {i j : Int} (hi : Bi2 i) (hj : Bi2 j) : IntMulOk i j := by
  unfold Bi2 at hi hj
  have h3 : Builtin.Int.intTooBig ((Builtin.Int.intBits i : Int) + (Builtin.Int.intBits j : Int)) = false := by
    unfold Builtin.Int.intTooBig bitsLine
    simp only [decide_eq_false_iff_not]
    omega
  unfold IntMulOk
  rw [h3, Bool.and_false]
  simp
theorem bi2_lin {c : Int} (h : Big c) : Bi2 (31 * c + 7) := by
  unfold Big at h
  unfold Bi2
  obtain ⟨N, hN⟩ : ∃ N : Nat, N = 1048576 := ⟨_, rfl⟩
  rw [← hN] at h
  have h1 := bits_lt h
  have h2 : (31 * c + 7).natAbs < 2 ^ (N + 6) := by
    have : (2 : Nat) ^ (N + 6) = 2 ^ N * 64 := by rw [Nat.pow_add]
    have p : 1 ≤ (2 : Nat) ^ N := Nat.pow_pos (by decide)
    omega
  have := bits_of h2
  omega
theorem bi2_quo {c s : Int} (h : Big c) : Bi2 (c / s + 10 ^ 18) := by
  unfold Big at h
  unfold Bi2
  obtain ⟨N, hN⟩ : ∃ N : Nat, N = 1048576 := ⟨_, rfl⟩
  rw [← hN] at h
  have h1 := bits_lt h
  have h0 := Int.natAbs_ediv_le_natAbs c s
  have h2 : (c / s + 10 ^ 18).natAbs < 2 ^ (N + 6) := by
    have : (2 : Nat) ^ (N + 6) = 2 ^ N * 64 := by rw [Nat.pow_add]
    have p : 2 ^ 70 ≤ (2 : Nat) ^ N := Nat.pow_le_pow_right (by decide) (by omega)
    omega
  have := bits_of h2
  omega
/-- pairs of ints stand at the addresses -/
inductive Pts (H : Hp) : List Addr → List (Int × Int) → Prop
  | nil : Pts H [] []
  | cons {q : Addr} {c : Int × Int} {qs : List Addr} {cs : List (Int × Int)} (h : H q = some (.tup [.int c.1, .int c.2])) (r : Pts H qs cs) : Pts H (q :: qs) (c :: cs)
theorem Pts.len {H : Hp} : ∀ {qs : List Addr} {cs : List (Int × Int)}, Pts H qs cs → qs.length = cs.length
  | _, _, .nil => rfl
  | _, _, .cons _ r => by rw [List.length_cons, List.length_cons, r.len]
theorem Pts.imp {H H' : Hp} : ∀ {qs : List Addr} {cs : List (Int × Int)}, Pts H qs cs → (∀ q ∈ qs, ∀ o, H q = some o → H' q = some o) → Pts H' qs cs
  | _, _, .nil, _ => .nil
  | _, _, .cons h r, f => .cons (f _ List.mem_cons_self _ h) (r.imp fun q m => f q (List.mem_cons_of_mem _ m))
theorem Pts.same {H H' : Hp} {qs : List Addr} {cs : List (Int × Int)} (r : Pts H qs cs) (s : Same H H') : Pts H' qs cs := r.imp fun _ _ _ h => s _ _ h
theorem Pts.snoc {H : Hp} {q : Addr} {x y : Int} (h : H q = some (.tup [.int x, .int y])) : ∀ {qs : List Addr} {cs : List (Int × Int)}, Pts H qs cs → Pts H (qs ++ [q]) (cs ++ [(x, y)])
  | _, _, .nil => .cons h .nil
  | _, _, .cons h' r => .cons h' (r.snoc h)
/-- the cells, row by row -/
def rowP (P : Nat → Nat → Bool) (r j : Nat) : List (Int × Int) := ((List.range j).filter (P r)).map fun c : Nat => ((r : Int), (c : Int))
def cellsP (n : Nat) (P : Nat → Nat → Bool) : Nat → List (Int × Int)
  | 0 => []
  | r + 1 => cellsP n P r ++ rowP P r n
theorem rowP_y {P : Nat → Nat → Bool} {r j : Nat} (h : P r j = true) : rowP P r (j + 1) = rowP P r j ++ [((r : Int), (j : Int))] := by
  unfold rowP
  rw [List.range_succ, List.filter_append, List.map_append]
  congr 1
  rw [List.filter_cons, h]
  rfl
theorem rowP_n {P : Nat → Nat → Bool} {r j : Nat} (h : P r j = false) : rowP P r (j + 1) = rowP P r j := by
  unfold rowP
  rw [List.range_succ, List.filter_append, List.map_append, List.filter_cons, h]
  simp
theorem cellsP_len {n : Nat} {P : Nat → Nat → Bool} : ∀ m, (cellsP n P m).length ≤ m * n
  | 0 => Nat.zero_le _
  | m + 1 => by
    have h := cellsP_len (n := n) (P := P) m
    show (cellsP n P m ++ rowP P m n).length ≤ _
    have : (rowP P m n).length ≤ n := by
      unfold rowP
      rw [List.length_map]
      have := List.length_filter_le (P m) (List.range n)
      rw [List.length_range] at this
      exact this
    rw [List.length_append, Nat.succ_mul]
    omega
theorem rowP_len {P : Nat → Nat → Bool} {r j : Nat} : (rowP P r j).length ≤ j := by
  unfold rowP
  rw [List.length_map]
  have := List.length_filter_le (P r) (List.range j)
  rw [List.length_range] at this
  exact this
/-- how many, where the rows that have cells return in equal distances, and the columns of each do -/
theorem cellsP_count {n M m row : Nat} {P : Nat → Nat → Bool} (hM : 0 < M) (hrow : row < M) (hm : 0 < m) (dm : m ∣ n)
    (h0 : ∀ r c, c < n → P r c = true → r % M = row) (h1 : ∀ r, r % M = row → ∃ k, k < m ∧ ∀ c, P r c = true ↔ c % m = k) : ∀ j, (cellsP n P j).length = ((List.range j).filter fun r => r % M == row).length * (n / m)
  | 0 => by simp [cellsP]
  | j + 1 => by
    show (cellsP n P j ++ rowP P j n).length = _
    rw [List.length_append, cellsP_count hM hrow hm dm h0 h1 j, List.range_succ, List.filter_append, List.length_append, Nat.add_mul]
    congr 1
    unfold rowP
    rw [List.length_map]
    by_cases e : j % M = row
    · obtain ⟨k, hk, hp⟩ := h1 j e
      obtain ⟨g, hg⟩ := dm
      have e1 : n / m = g := by rw [hg, Nat.mul_div_cancel_left _ hm]
      rw [e1, hg, Nat.mul_comm m g, filter_prog m k hk _ hp g, List.length_map, List.length_range, List.filter_cons]
      simp [e]
    · have e2 : (List.range n).filter (P j) = [] := by
        rw [List.filter_eq_nil_iff]
        intro c hc hP
        exact e (h0 j c (List.mem_range.mp hc) hP)
      rw [e2, List.filter_cons]
      simp [e]
theorem rows_count {n M row : Nat} (hM : 0 < M) (hrow : row < M) (dM : M ∣ n) : ((List.range n).filter fun r => r % M == row).length = n / M := by
  obtain ⟨g, hg⟩ := dM
  have e1 : n / M = g := by rw [hg, Nat.mul_div_cancel_left _ hM]
  rw [e1, hg, Nat.mul_comm M g, filter_prog M row hrow _ (fun k => by simp) g, List.length_map, List.length_range]
theorem cellsP_empty {n : Nat} {P : Nat → Nat → Bool} : ∀ {j : Nat}, (∀ r, r < j → ∀ c, c < n → P r c = false) → cellsP n P j = []
  | 0, _ => rfl
  | j + 1, h => by
    show cellsP n P j ++ rowP P j n = []
    rw [cellsP_empty fun r hr => h r (by omega)]
    unfold rowP
    have e2 : (List.range n).filter (P j) = [] := by
      rw [List.filter_eq_nil_iff]
      intro c hc hP
      rw [h j (by omega) c (List.mem_range.mp hc)] at hP
      cases hP
    rw [e2]
    rfl
theorem cellsP_mono {n : Nat} {P : Nat → Nat → Bool} {i : Nat} : ∀ j, i ≤ j → ∃ l, cellsP n P j = cellsP n P i ++ l
  | 0, h => ⟨[], by have : i = 0 := by omega
                    subst this; simp⟩
  | j + 1, h => by
    by_cases e : i = j + 1
    · subst e; exact ⟨[], by simp⟩
    · obtain ⟨l, hl⟩ := cellsP_mono (n := n) (P := P) (i := i) j (by omega)
      exact ⟨l ++ rowP P j n, by show cellsP n P j ++ rowP P j n = _; rw [hl, List.append_assoc]⟩
/-- the first -/
theorem cellsP_first {n M m row col : Nat} {P : Nat → Nat → Bool} (hrow : row < M) (hM : M ≤ n) (hcol : col < m) (hm : m ≤ n)
    (h0 : ∀ r c, c < n → P r c = true → r % M = row) (h1 : ∀ c, P row c = true ↔ c % m = col) : ∃ l, cellsP n P n = ((row : Int), (col : Int)) :: l := by
  have e0 : cellsP n P row = [] := cellsP_empty fun r hr c hc => by
    cases e : P r c with
    | false => rfl
    | true =>
      have := h0 r c hc e
      rw [Nat.mod_eq_of_lt (by omega)] at this
      omega
  obtain ⟨l, hl⟩ := cellsP_mono (n := n) (P := P) (i := row + 1) n (by omega)
  have e1 : rowP P row (col + 1) = [((row : Int), (col : Int))] := by
    unfold rowP
    rw [filter_one (col + 1) col _ (fun k hk => by
      rw [h1, Nat.mod_eq_of_lt (show k < m by omega)]), if_pos (by omega)]
    rfl
  have e2 : ∃ l2, rowP P row n = rowP P row (col + 1) ++ l2 := by
    obtain ⟨d, hd⟩ : ∃ d, n = (col + 1) + d := ⟨n - (col + 1), by omega⟩
    unfold rowP
    rw [hd, List.range_add, List.filter_append, List.map_append]
    exact ⟨_, rfl⟩
  obtain ⟨l2, hl2⟩ := e2
  refine ⟨l2 ++ l, ?_⟩
  rw [hl]
  show (cellsP n P row ++ rowP P row n) ++ l = _
  rw [e0, hl2, e1]
  rfl
end L3

set_option Elab.async false
set_option linter.all false
set_option maxRecDepth 100000
set_option maxHeartbeats 2000000
/-! two congruences with two unknowns: when there is a solution, and how many. -/
namespace L3
open PySem L2 PyProof.Rows
/-- the greatest common divisor of a list -/
def gcdL (l : List Int) : Int := l.foldl gcdZ 0
theorem gcdZ_n0 (x y : Int) : 0 ≤ gcdZ x y := by unfold gcdZ; exact Int.natCast_nonneg _
theorem gcdL_fold : ∀ (l : List Int) (z d : Int), d ∣ l.foldl gcdZ z ↔ d ∣ z ∧ ∀ x ∈ l, d ∣ x
  | [], z, d => ⟨fun h => ⟨h, fun x m => (List.not_mem_nil m).elim⟩, fun h => h.1⟩
  | x :: l, z, d => by
    show d ∣ l.foldl gcdZ (gcdZ z x) ↔ _
    rw [gcdL_fold l (gcdZ z x) d]
    constructor
    · rintro ⟨h1, h2⟩
      refine ⟨Int.dvd_trans h1 (gcdZ_dl _ _), fun y m => ?_⟩
      rcases List.mem_cons.mp m with rfl | m
      · exact Int.dvd_trans h1 (gcdZ_dr _ _)
      · exact h2 y m
    · rintro ⟨h1, h2⟩
      exact ⟨gcdZ_greatest h1 (h2 x List.mem_cons_self), fun y m => h2 y (List.mem_cons_of_mem _ m)⟩
theorem gcdL_iff {l : List Int} {d : Int} : d ∣ gcdL l ↔ ∀ x ∈ l, d ∣ x := by
  unfold gcdL
  rw [gcdL_fold]
  exact ⟨fun h => h.2, fun h => ⟨Int.dvd_zero _, h⟩⟩
theorem fold_nn : ∀ (l : List Int) (z : Int), 0 ≤ z → 0 ≤ l.foldl gcdZ z
  | [], z, h => h
  | x :: l, z, h => fold_nn l _ (gcdZ_n0 _ _)
theorem gcdL_nn (l : List Int) : 0 ≤ gcdL l := fold_nn l 0 (Int.le_refl _)
theorem gcdL_dvd {l : List Int} {x : Int} (h : x ∈ l) : gcdL l ∣ x := gcdL_iff.mp (Int.dvd_refl _) x h
theorem gcdL_pos {l : List Int} {x : Int} (h : x ∈ l) (hx : x ≠ 0) : 1 ≤ gcdL l := by
  have h1 := gcdL_nn l
  have h2 := gcdL_dvd h
  rcases (show gcdL l = 0 ∨ 1 ≤ gcdL l by omega) with z | z
  · rw [z] at h2
    exact absurd (Int.zero_dvd.mp h2) hx
  · exact z
theorem same_gcd {x y : Int} (hx : 0 ≤ x) (hy : 0 ≤ y) (h : ∀ d : Int, d ∣ x ↔ d ∣ y) : x = y :=
  Int.dvd_antisymm hx hy ((h x).mp (Int.dvd_refl _)) ((h y).mpr (Int.dvd_refl _))
theorem bezA (x y : Int) : ∃ u v : Int, u * x + v * y = gcdZ x y := by
  by_cases z : y = 0
  · subst z
    refine ⟨if 0 ≤ x then 1 else -1, 0, ?_⟩
    have : gcdZ x 0 = (x.natAbs : Int) := by unfold gcdZ; rw [Int.natAbs_zero, Nat.gcd_zero_right]
    rw [this]
    split <;> omega
  · have h1 : 1 ≤ (y.natAbs : Int) := by omega
    obtain ⟨t, k, hk⟩ := bez x h1
    have e : gcdZ x (y.natAbs : Int) = gcdZ x y := by unfold gcdZ; rw [Int.natAbs_natCast]
    rw [e] at hk
    by_cases s : 0 ≤ y
    · exact ⟨t, -k, by have : (y.natAbs : Int) = y := by omega
                       rw [this] at hk; grind⟩
    · exact ⟨t, k, by have : (y.natAbs : Int) = -y := by omega
                      rw [this] at hk; grind⟩
theorem bezF : ∀ (l : List Int) (z : Int), ∃ (u : Int) (us : List Int), us.length = l.length ∧ u * z + ((us.zip l).map fun p => p.1 * p.2).sum = l.foldl gcdZ z
  | [], z => ⟨1, [], rfl, by simp⟩
  | x :: l, z => by
    obtain ⟨u, us, hl, h⟩ := bezF l (gcdZ z x)
    obtain ⟨p, q, hpq⟩ := bezA z x
    refine ⟨u * p, (u * q) :: us, by rw [List.length_cons, List.length_cons, hl], ?_⟩
    show _ = l.foldl gcdZ (gcdZ z x)
    rw [← h, List.zip_cons_cons, List.map_cons, List.sum_cons, ← hpq]
    generalize ((us.zip l).map fun p => p.1 * p.2).sum = S
    show u * p * z + (u * q * x + S) = u * (p * z + q * x) + S
    grind
theorem bez4 (t1 t2 t3 N : Int) : ∃ u1 u2 u3 u0 : Int, u1 * t1 + u2 * t2 + u3 * t3 + u0 * N = gcdL [t1, t2, t3, N] := by
  obtain ⟨u, us, hl, h⟩ := bezF [t1, t2, t3, N] 0
  match us, hl with
  | [u1, u2, u3, u0], _ =>
    refine ⟨u1, u2, u3, u0, ?_⟩
    unfold gcdL
    rw [← h]
    simp [List.zip, List.zipWith]
    grind
theorem solve3 {t1 t2 t3 w1 w2 w3 N : Int} (h0 : gcdL [t1, t2, t3, N] ≠ 0) (d1 : gcdL [t1, t2, t3, N] ∣ w1) (d2 : gcdL [t1, t2, t3, N] ∣ w2) (d3 : gcdL [t1, t2, t3, N] ∣ w3)
    (m12 : N * gcdL [t1, t2, t3, N] ∣ t1 * w2 - t2 * w1) (m13 : N * gcdL [t1, t2, t3, N] ∣ t1 * w3 - t3 * w1) (m23 : N * gcdL [t1, t2, t3, N] ∣ t2 * w3 - t3 * w2) :
    ∃ r, N ∣ t1 * r - w1 ∧ N ∣ t2 * r - w2 ∧ N ∣ t3 * r - w3 := by
  obtain ⟨u1, u2, u3, u0, hb⟩ := bez4 t1 t2 t3 N
  generalize gcdL [t1, t2, t3, N] = h at *
  obtain ⟨x1, rfl⟩ := d1
  obtain ⟨x2, rfl⟩ := d2
  obtain ⟨x3, rfl⟩ := d3
  obtain ⟨k12, e12⟩ := m12
  obtain ⟨k13, e13⟩ := m13
  obtain ⟨k23, e23⟩ := m23
  have f12 : t1 * x2 - t2 * x1 = N * k12 := Int.eq_of_mul_eq_mul_left h0 (by grind)
  have f13 : t1 * x3 - t3 * x1 = N * k13 := Int.eq_of_mul_eq_mul_left h0 (by grind)
  have f23 : t2 * x3 - t3 * x2 = N * k23 := Int.eq_of_mul_eq_mul_left h0 (by grind)
  refine ⟨u1 * x1 + u2 * x2 + u3 * x3, ⟨u2 * k12 + u3 * k13 - u0 * x1, ?_⟩, ⟨u3 * k23 - u1 * k12 - u0 * x2, ?_⟩, ⟨-(u1 * k13) - u2 * k23 - u0 * x3, ?_⟩⟩
  · rw [← hb]; grind
  · rw [← hb]; grind
  · rw [← hb]; grind
/-- the columns of a row -/
theorem col_iff {n b b2 u v : Int} (hn : 1 ≤ n) : (∃ c, n ∣ b * c - u ∧ n ∣ b2 * c - v) ↔ gcdL [b, b2, 0, n] ∣ u ∧ gcdL [b, b2, 0, n] ∣ v ∧ n * gcdL [b, b2, 0, n] ∣ b2 * u - b * v := by
  have g0 : 1 ≤ gcdL [b, b2, 0, n] := gcdL_pos (x := n) (by simp) (by omega)
  have gb : gcdL [b, b2, 0, n] ∣ b := gcdL_dvd (by simp)
  have gb2 : gcdL [b, b2, 0, n] ∣ b2 := gcdL_dvd (by simp)
  have gn : gcdL [b, b2, 0, n] ∣ n := gcdL_dvd (by simp)
  constructor
  · rintro ⟨c, ⟨k, hk⟩, ⟨l, hl⟩⟩
    obtain ⟨x, hx⟩ := gb
    obtain ⟨y, hy⟩ := gb2
    obtain ⟨z, hz⟩ := gn
    generalize gcdL [b, b2, 0, n] = g at *
    refine ⟨⟨x * c - z * k, by grind⟩, ⟨y * c - z * l, by grind⟩, ⟨x * l - y * k, by grind⟩⟩
  · rintro ⟨h1, h2, ⟨k, hk⟩⟩
    obtain ⟨c, e1, e2, _⟩ := solve3 (t1 := b) (t2 := b2) (t3 := 0) (w1 := u) (w2 := v) (w3 := 0) (N := n) (by omega) h1 h2 (Int.dvd_zero _) ⟨-k, by grind⟩ ⟨0, by grind⟩ ⟨0, by grind⟩
    exact ⟨c, e1, e2⟩
def hOf (n a b a2 b2 : Int) : Int := gcdL [n * a, n * a2, a * b2 - a2 * b, n * gcdL [b, b2, 0, n]]
theorem hOf_pos {n a b a2 b2 : Int} (hn : 1 ≤ n) : 1 ≤ hOf n a b a2 b2 := by
  have g0 : 1 ≤ gcdL [b, b2, 0, n] := gcdL_pos (x := n) (by simp) (by omega)
  refine gcdL_pos (x := n * gcdL [b, b2, 0, n]) (by simp) ?_
  have := Int.mul_pos (show 0 < n by omega) (show 0 < gcdL [b, b2, 0, n] by omega)
  omega
/-- rows that have a cell -/
theorem row_iff {n a b a2 b2 r : Int} (hn : 1 ≤ n) : (∃ c, Sys n a b 0 a2 b2 0 r c) ↔ n * gcdL [b, b2, 0, n] ∣ hOf n a b a2 b2 * r := by
  have e : (∃ c, Sys n a b 0 a2 b2 0 r c) ↔ ∃ c, n ∣ b * c - (-(a * r)) ∧ n ∣ b2 * c - (-(a2 * r)) := by
    refine exists_congr fun c => ?_
    unfold Sys
    rw [show a * r + b * c - 0 = b * c - (-(a * r)) by omega, show a2 * r + b2 * c - 0 = b2 * c - (-(a2 * r)) by omega]
  rw [e, col_iff hn]
  obtain ⟨u1, u2, u3, u0, hb⟩ := bez4 (n * a) (n * a2) (a * b2 - a2 * b) (n * gcdL [b, b2, 0, n])
  have t1 : hOf n a b a2 b2 ∣ n * a := gcdL_dvd (by simp)
  have t2 : hOf n a b a2 b2 ∣ n * a2 := gcdL_dvd (by simp)
  have t3 : hOf n a b a2 b2 ∣ a * b2 - a2 * b := gcdL_dvd (by simp)
  have hb' : u1 * (n * a) + u2 * (n * a2) + u3 * (a * b2 - a2 * b) + u0 * (n * gcdL [b, b2, 0, n]) = hOf n a b a2 b2 := hb
  clear hb
  generalize hOf n a b a2 b2 = h at *
  generalize gcdL [b, b2, 0, n] = g at *
  constructor
  · rintro ⟨⟨x, hx⟩, ⟨y, hy⟩, ⟨z, hz⟩⟩
    refine ⟨-(u1 * x) - u2 * y - u3 * z + u0 * r, ?_⟩
    rw [← hb']
    grind
  · rintro ⟨k, hk⟩
    obtain ⟨p, hp⟩ := t1
    obtain ⟨q, hq⟩ := t2
    obtain ⟨s, hs⟩ := t3
    refine ⟨⟨-(k * p), ?_⟩, ⟨-(k * q), ?_⟩, ⟨-(k * s), ?_⟩⟩
    · have : n * (-(a * r)) = n * (g * -(k * p)) := by grind
      exact Int.eq_of_mul_eq_mul_left (by omega) this
    · have : n * (-(a2 * r)) = n * (g * -(k * q)) := by grind
      exact Int.eq_of_mul_eq_mul_left (by omega) this
    · grind
theorem aux1 {n a b f r c k p x z w h g : Int} (ef : a * r + b * c - f = n * k) (hp : n * a = h * p) (hx : b = g * x) (hz : n = g * z) (hw : n * g = h * w) : n * f = h * (p * r + w * x * c - w * z * k) := by
  have e1 : n * f = (n * a) * r + n * b * c - n * (n * k) := by rw [← ef]; grind
  have e2 : n * b * c = (n * g) * x * c := by rw [hx]; grind
  have e3 : n * (n * k) = (n * g) * z * k := by
    have : n * (n * k) = n * (g * z * k) := by rw [← hz]
    rw [this]; grind
  rw [e1, e2, e3, hp, hw]
  grind
theorem aux3 {n a b a2 b2 f s r c k l x y d w h g : Int} (ef : a * r + b * c - f = n * k) (es : a2 * r + b2 * c - s = n * l) (hx : b = g * x) (hy : b2 = g * y) (hd : a * b2 - a2 * b = h * d) (hw : n * g = h * w) : b2 * f - b * s = h * (d * r - w * y * k + w * x * l) := by
  have e0 : f = a * r + b * c - n * k := by omega
  have e00 : s = a2 * r + b2 * c - n * l := by omega
  have e1 : b2 * f - b * s = (a * b2 - a2 * b) * r - n * b2 * k + n * b * l := by rw [e0, e00]; grind
  have e2 : n * b2 * k = (n * g) * y * k := by rw [hy]; grind
  have e3 : n * b * l = (n * g) * x * l := by rw [hx]; grind
  rw [e1, e2, e3, hd, hw]
  grind
theorem aux4 {n a b a2 b2 f s r c k l p q d h : Int} (ef : a * r + b * c - f = n * k) (es : a2 * r + b2 * c - s = n * l) (hp : n * a = h * p) (hq : n * a2 = h * q) (hd : a * b2 - a2 * b = h * d) : a * s - a2 * f = h * (d * c - p * l + q * k) := by
  have e0 : f = a * r + b * c - n * k := by omega
  have e00 : s = a2 * r + b2 * c - n * l := by omega
  have e1 : a * s - a2 * f = (a * b2 - a2 * b) * c - (n * a) * l + (n * a2) * k := by rw [e0, e00]; grind
  rw [e1, hd, hp, hq]
  grind
theorem auxm {n a b a2 b2 f s z m h g : Int} (hz : n = g * z) (hm : a * s - a2 * f = h * m) : n * a * (n * s) - n * a2 * (n * f) = n * g * h * (z * m) := by
  have e1 : n * a * (n * s) - n * a2 * (n * f) = n * n * (a * s - a2 * f) := by grind
  have e2 : n * n * (a * s - a2 * f) = n * (g * z) * (a * s - a2 * f) := by rw [← hz]
  rw [e1, e2, hm]
  grind
theorem auxn {n a b a2 b2 f s x m h g : Int} (hx : b = g * x) (hm : a * s - a2 * f = h * m) : n * a * (b2 * f - b * s) - (a * b2 - a2 * b) * (n * f) = n * g * h * -(x * m) := by
  have e1 : n * a * (b2 * f - b * s) - (a * b2 - a2 * b) * (n * f) = -(n * b * (a * s - a2 * f)) := by grind
  rw [e1, hm, hx]
  grind
theorem auxo {n a b a2 b2 f s y m h g : Int} (hy : b2 = g * y) (hm : a * s - a2 * f = h * m) : n * a2 * (b2 * f - b * s) - (a * b2 - a2 * b) * (n * s) = n * g * h * -(y * m) := by
  have e1 : n * a2 * (b2 * f - b * s) - (a * b2 - a2 * b) * (n * s) = -(n * b2 * (a * s - a2 * f)) := by grind
  rw [e1, hm, hy]
  grind
/-- when there is a solution -/
theorem sys_iff {n a b f a2 b2 s : Int} (hn : 1 ≤ n) : (∃ r c, Sys n a b f a2 b2 s r c) ↔ hOf n a b a2 b2 ∣ n * f ∧ hOf n a b a2 b2 ∣ n * s ∧ hOf n a b a2 b2 ∣ b2 * f - b * s ∧ hOf n a b a2 b2 ∣ a * s - a2 * f := by
  have hp := hOf_pos (a := a) (b := b) (a2 := a2) (b2 := b2) hn
  have g0 : 1 ≤ gcdL [b, b2, 0, n] := gcdL_pos (x := n) (by simp) (by omega)
  have gb : gcdL [b, b2, 0, n] ∣ b := gcdL_dvd (by simp)
  have gb2 : gcdL [b, b2, 0, n] ∣ b2 := gcdL_dvd (by simp)
  have gn : gcdL [b, b2, 0, n] ∣ n := gcdL_dvd (by simp)
  have t1 : hOf n a b a2 b2 ∣ n * a := gcdL_dvd (by simp)
  have t2 : hOf n a b a2 b2 ∣ n * a2 := gcdL_dvd (by simp)
  have t3 : hOf n a b a2 b2 ∣ a * b2 - a2 * b := gcdL_dvd (by simp)
  have t4 : hOf n a b a2 b2 ∣ n * gcdL [b, b2, 0, n] := gcdL_dvd (by simp)
  constructor
  · rintro ⟨r, c, ⟨k, hk⟩, ⟨l, hl⟩⟩
    obtain ⟨x, hx⟩ := gb
    obtain ⟨y, hy⟩ := gb2
    obtain ⟨z, hz⟩ := gn
    obtain ⟨p, hp1⟩ := t1
    obtain ⟨q, hq⟩ := t2
    obtain ⟨d, hd⟩ := t3
    obtain ⟨w, hw⟩ := t4
    generalize hOf n a b a2 b2 = h at *
    generalize gcdL [b, b2, 0, n] = g at *
    exact ⟨⟨_, aux1 hk hp1 hx hz hw⟩, ⟨_, aux1 hl hq hy hz hw⟩, ⟨_, aux3 hk hl hx hy hd hw⟩, ⟨_, aux4 hk hl hp1 hq hd⟩⟩
  · rintro ⟨d1, d2, d3, ⟨m, hm⟩⟩
    obtain ⟨x, hx⟩ := id gb
    obtain ⟨y, hy⟩ := id gb2
    obtain ⟨z, hz⟩ := id gn
    have hh : hOf n a b a2 b2 = gcdL [n * a, n * a2, a * b2 - a2 * b, n * gcdL [b, b2, 0, n]] := rfl
    obtain ⟨r, e1, e2, e3⟩ := solve3 (t1 := n * a) (t2 := n * a2) (t3 := a * b2 - a2 * b) (w1 := n * f) (w2 := n * s) (w3 := b2 * f - b * s) (N := n * gcdL [b, b2, 0, n]) (by rw [← hh]; omega) (by rw [← hh]; exact d1) (by rw [← hh]; exact d2) (by rw [← hh]; exact d3)
      (by rw [← hh]; exact ⟨z * m, auxm (b := b) (b2 := b2) hz hm⟩) (by rw [← hh]; exact ⟨-(x * m), auxn hx hm⟩) (by rw [← hh]; exact ⟨-(y * m), auxo hy hm⟩)
    have hc := (col_iff (n := n) (b := b) (b2 := b2) (u := f - a * r) (v := s - a2 * r) hn).mpr ⟨?_, ?_, ?_⟩
    · obtain ⟨c, c1, c2⟩ := hc
      refine ⟨r, c, ?_, ?_⟩
      · rw [show a * r + b * c - f = b * c - (f - a * r) by omega]; exact c1
      · rw [show a2 * r + b2 * c - s = b2 * c - (s - a2 * r) by omega]; exact c2
    · obtain ⟨k, hk⟩ := e1
      refine ⟨-k, Int.eq_of_mul_eq_mul_left (show n ≠ 0 by omega) (by grind)⟩
    · obtain ⟨k, hk⟩ := e2
      refine ⟨-k, Int.eq_of_mul_eq_mul_left (show n ≠ 0 by omega) (by grind)⟩
    · obtain ⟨k, hk⟩ := e3
      exact ⟨-k, by grind⟩
/-- the distance of what a number times it is a multiple of another one -/
theorem dist_of {M h N : Int} (hM : 1 ≤ M) (hh : 1 ≤ h) (hN : 1 ≤ N) (dv : h ∣ N) (e : ∀ r : Int, M ∣ r ↔ N ∣ h * r) : h * M = N := by
  obtain ⟨j, hj⟩ := dv
  obtain ⟨k, hk⟩ := (e M).mp (Int.dvd_refl _)
  have hj2 := (e j).mpr (by rw [← hj]; exact Int.dvd_refl _)
  obtain ⟨i, hi⟩ := hj2
  have e1 : N * 1 = N * (k * i) := by
    rw [Int.mul_one]
    calc N = h * j := hj
      _ = h * (M * i) := by rw [hi]
      _ = (h * M) * i := by rw [Int.mul_assoc]
      _ = N * k * i := by rw [hk]
      _ = N * (k * i) := by rw [Int.mul_assoc]
  have e2 : 1 = k * i := Int.eq_of_mul_eq_mul_left (by omega) e1
  have kp : 0 < k := by
    apply Classical.byContradiction
    intro z
    have : N * k ≤ 0 := Int.mul_nonpos_of_nonneg_of_nonpos (by omega) (by omega)
    have := Int.mul_pos (show 0 < h by omega) (show 0 < M by omega)
    omega
  have k1 : k ∣ 1 := ⟨i, e2⟩
  have k2 := Int.le_of_dvd (by decide) k1
  have : k = 1 := by omega
  subst this
  omega
/-- how many -/
theorem many_is {n a b a2 b2 M m : Int} (hn : 1 ≤ n) (M1 : 1 ≤ M) (M2 : M ∣ n) (m1 : 1 ≤ m) (m2 : m ∣ n) (eM : ∀ r : Int, M ∣ r ↔ ∃ c, Sys n a b 0 a2 b2 0 r c) (em : ∀ c : Int, m ∣ c ↔ Sys n a b 0 a2 b2 0 0 c) :
    n / M * (n / m) = hOf n a b a2 b2 ∧ n / m = gcdL [b, b2, 0, n] ∧ m * gcdL [b, b2, 0, n] = n ∧ hOf n a b a2 b2 * M = n * gcdL [b, b2, 0, n] := by
  have hp := hOf_pos (a := a) (b := b) (a2 := a2) (b2 := b2) hn
  have g0 : 1 ≤ gcdL [b, b2, 0, n] := gcdL_pos (x := n) (by simp) (by omega)
  have gn : gcdL [b, b2, 0, n] ∣ n := gcdL_dvd (by simp)
  have gb : gcdL [b, b2, 0, n] ∣ b := gcdL_dvd (by simp)
  have gb2 : gcdL [b, b2, 0, n] ∣ b2 := gcdL_dvd (by simp)
  have hd : hOf n a b a2 b2 ∣ n * gcdL [b, b2, 0, n] := gcdL_dvd (by simp)
  have N1 : 1 ≤ n * gcdL [b, b2, 0, n] := by have := Int.mul_pos (show 0 < n by omega) (show 0 < gcdL [b, b2, 0, n] by omega); omega
  have h1 : hOf n a b a2 b2 * M = n * gcdL [b, b2, 0, n] := dist_of M1 hp N1 hd fun r => by rw [eM r, row_iff hn]
  have h2 : gcdL [b, b2, 0, n] * m = n := dist_of m1 g0 hn gn fun c => by
    rw [em c]
    unfold Sys
    rw [show a * 0 + b * c - 0 = b * c by omega, show a2 * 0 + b2 * c - 0 = b2 * c by omega]
    constructor
    · rintro ⟨⟨x, hx⟩, ⟨y, hy⟩⟩
      obtain ⟨u1, u2, u3, u0, hb⟩ := bez4 b b2 0 n
      rw [← hb]
      exact ⟨u1 * x + u2 * y + u0 * c, by grind⟩
    · rintro ⟨k, hk⟩
      obtain ⟨p, hp2⟩ := gb
      obtain ⟨q, hq⟩ := gb2
      generalize gcdL [b, b2, 0, n] = g at *
      exact ⟨⟨p * k, by grind⟩, ⟨q * k, by grind⟩⟩
  have h3 : n / m = gcdL [b, b2, 0, n] := by
    have e : n = m * gcdL [b, b2, 0, n] := by rw [Int.mul_comm]; exact h2.symm
    have := Int.mul_ediv_cancel_left (gcdL [b, b2, 0, n]) (show m ≠ 0 by omega)
    rw [← e] at this
    exact this
  refine ⟨?_, h3, by rw [Int.mul_comm]; exact h2, h1⟩
  obtain ⟨q, hq⟩ := M2
  have e1 : n / M = q := by rw [hq]; exact Int.mul_ediv_cancel_left _ (by omega)
  rw [h3, e1]
  have : M * (q * gcdL [b, b2, 0, n]) = M * hOf n a b a2 b2 := by
    rw [← Int.mul_assoc, ← hq, Int.mul_comm M, h1]
  exact Int.eq_of_mul_eq_mul_left (by omega) this
/-- as the law tells it -/
theorem minors_is {n a b a2 b2 : Int} : gcdL [a * b2 - b * a2, n * gcdL [a, b, a2, b2, n], n * n] = hOf n a b a2 b2 := by
  refine same_gcd (gcdL_nn _) (gcdL_nn _) fun d => ?_
  have key : ∀ (l : List Int) (x : Int), d ∣ x * gcdL l ↔ ∀ y ∈ l, d ∣ x * y := by
    intro l x
    constructor
    · intro h y m
      obtain ⟨k, hk⟩ := gcdL_dvd m
      rw [hk, ← Int.mul_assoc]
      exact Int.dvd_mul_of_dvd_left h
    · intro h
      obtain ⟨u, us, hl, hs⟩ := bezF l 0
      have e : gcdL l = u * 0 + ((us.zip l).map fun p => p.1 * p.2).sum := hs.symm
      rw [e, Int.mul_zero, Int.zero_add]
      clear e hs hl
      induction l generalizing us with
      | nil => simp
      | cons y l ih =>
        cases us with
        | nil => simp
        | cons v us =>
          rw [List.zip_cons_cons, List.map_cons, List.sum_cons, Int.mul_add]
          refine Int.dvd_add ?_ (ih (fun z m => h z (List.mem_cons_of_mem _ m)) us)
          rw [show x * (v * y) = v * (x * y) by grind]
          exact Int.dvd_mul_of_dvd_right (h y List.mem_cons_self)
  unfold hOf
  rw [gcdL_iff, gcdL_iff]
  simp only [List.mem_cons, List.not_mem_nil, or_false, forall_eq_or_imp, forall_eq, key]
  rw [show a * b2 - b * a2 = a * b2 - a2 * b by grind, Int.mul_zero]
  have z : d ∣ (0 : Int) := Int.dvd_zero _
  constructor
  · rintro ⟨h1, ⟨h2, h3, h4, h5, h6⟩, h7⟩; exact ⟨h2, h4, h1, h3, h5, z, h6⟩
  · rintro ⟨h2, h4, h1, h3, h5, _, h6⟩; exact ⟨h1, ⟨h2, h3, h4, h5, h6⟩, h6⟩
theorem gcdL_cons_eq {g : Int} {l : List Int} (hg : 0 ≤ g) : gcdL (g :: l) = g ↔ ∀ x ∈ l, g ∣ x := by
  constructor
  · intro h x m
    have := gcdL_dvd (l := g :: l) (List.mem_cons_of_mem _ m)
    rw [h] at this
    exact this
  · intro h
    refine Int.dvd_antisymm (gcdL_nn _) hg (gcdL_dvd List.mem_cons_self) (gcdL_iff.mpr fun x m => ?_)
    rcases List.mem_cons.mp m with rfl | m
    · exact Int.dvd_refl _
    · exact h x m
/-! more slots -/
section
variable {Q : VK} {H : Hp} {v : V} {r : L2.St} {nx : L2.St → Hp → Prop} {tt : TT} {te : TE} {R : Option V → Hp → Prop} {a0 a1 a2 a3 a4 a5 a6 a7 a8 a9 a10 a11 a12 a13 a14 a15 a16 a17 a18 a19 a20 a21 a22 a23 a24 a25 a26 : Option V}
theorem gv_21 (h : Q v H) : tVar 21 (a0 :: a1 :: a2 :: a3 :: a4 :: a5 :: a6 :: a7 :: a8 :: a9 :: a10 :: a11 :: a12 :: a13 :: a14 :: a15 :: a16 :: a17 :: a18 :: a19 :: a20 :: some v :: r) H Q := ⟨v, rfl, h⟩
theorem gn_21 (h : nx (a0 :: a1 :: a2 :: a3 :: a4 :: a5 :: a6 :: a7 :: a8 :: a9 :: a10 :: a11 :: a12 :: a13 :: a14 :: a15 :: a16 :: a17 :: a18 :: a19 :: a20 :: some v :: r) H) : gName 21 v (a0 :: a1 :: a2 :: a3 :: a4 :: a5 :: a6 :: a7 :: a8 :: a9 :: a10 :: a11 :: a12 :: a13 :: a14 :: a15 :: a16 :: a17 :: a18 :: a19 :: a20 :: a21 :: r) H nx := h
theorem lct_21 (h : tt (a0 :: a1 :: a2 :: a3 :: a4 :: a5 :: a6 :: a7 :: a8 :: a9 :: a10 :: a11 :: a12 :: a13 :: a14 :: a15 :: a16 :: a17 :: a18 :: a19 :: a20 :: some v :: r) H fun b H3 => LcE R te b (a0 :: a1 :: a2 :: a3 :: a4 :: a5 :: a6 :: a7 :: a8 :: a9 :: a10 :: a11 :: a12 :: a13 :: a14 :: a15 :: a16 :: a17 :: a18 :: a19 :: a20 :: some v :: r) H3) : LcT (gName 21) tt te [21] (a0 :: a1 :: a2 :: a3 :: a4 :: a5 :: a6 :: a7 :: a8 :: a9 :: a10 :: a11 :: a12 :: a13 :: a14 :: a15 :: a16 :: a17 :: a18 :: a19 :: a20 :: a21 :: r) v H R := ⟨rfl, h⟩
theorem gv_22 (h : Q v H) : tVar 22 (a0 :: a1 :: a2 :: a3 :: a4 :: a5 :: a6 :: a7 :: a8 :: a9 :: a10 :: a11 :: a12 :: a13 :: a14 :: a15 :: a16 :: a17 :: a18 :: a19 :: a20 :: a21 :: some v :: r) H Q := ⟨v, rfl, h⟩
theorem gn_22 (h : nx (a0 :: a1 :: a2 :: a3 :: a4 :: a5 :: a6 :: a7 :: a8 :: a9 :: a10 :: a11 :: a12 :: a13 :: a14 :: a15 :: a16 :: a17 :: a18 :: a19 :: a20 :: a21 :: some v :: r) H) : gName 22 v (a0 :: a1 :: a2 :: a3 :: a4 :: a5 :: a6 :: a7 :: a8 :: a9 :: a10 :: a11 :: a12 :: a13 :: a14 :: a15 :: a16 :: a17 :: a18 :: a19 :: a20 :: a21 :: a22 :: r) H nx := h
theorem lct_22 (h : tt (a0 :: a1 :: a2 :: a3 :: a4 :: a5 :: a6 :: a7 :: a8 :: a9 :: a10 :: a11 :: a12 :: a13 :: a14 :: a15 :: a16 :: a17 :: a18 :: a19 :: a20 :: a21 :: some v :: r) H fun b H3 => LcE R te b (a0 :: a1 :: a2 :: a3 :: a4 :: a5 :: a6 :: a7 :: a8 :: a9 :: a10 :: a11 :: a12 :: a13 :: a14 :: a15 :: a16 :: a17 :: a18 :: a19 :: a20 :: a21 :: some v :: r) H3) : LcT (gName 22) tt te [22] (a0 :: a1 :: a2 :: a3 :: a4 :: a5 :: a6 :: a7 :: a8 :: a9 :: a10 :: a11 :: a12 :: a13 :: a14 :: a15 :: a16 :: a17 :: a18 :: a19 :: a20 :: a21 :: a22 :: r) v H R := ⟨rfl, h⟩
theorem gv_23 (h : Q v H) : tVar 23 (a0 :: a1 :: a2 :: a3 :: a4 :: a5 :: a6 :: a7 :: a8 :: a9 :: a10 :: a11 :: a12 :: a13 :: a14 :: a15 :: a16 :: a17 :: a18 :: a19 :: a20 :: a21 :: a22 :: some v :: r) H Q := ⟨v, rfl, h⟩
theorem gn_23 (h : nx (a0 :: a1 :: a2 :: a3 :: a4 :: a5 :: a6 :: a7 :: a8 :: a9 :: a10 :: a11 :: a12 :: a13 :: a14 :: a15 :: a16 :: a17 :: a18 :: a19 :: a20 :: a21 :: a22 :: some v :: r) H) : gName 23 v (a0 :: a1 :: a2 :: a3 :: a4 :: a5 :: a6 :: a7 :: a8 :: a9 :: a10 :: a11 :: a12 :: a13 :: a14 :: a15 :: a16 :: a17 :: a18 :: a19 :: a20 :: a21 :: a22 :: a23 :: r) H nx := h
theorem lct_23 (h : tt (a0 :: a1 :: a2 :: a3 :: a4 :: a5 :: a6 :: a7 :: a8 :: a9 :: a10 :: a11 :: a12 :: a13 :: a14 :: a15 :: a16 :: a17 :: a18 :: a19 :: a20 :: a21 :: a22 :: some v :: r) H fun b H3 => LcE R te b (a0 :: a1 :: a2 :: a3 :: a4 :: a5 :: a6 :: a7 :: a8 :: a9 :: a10 :: a11 :: a12 :: a13 :: a14 :: a15 :: a16 :: a17 :: a18 :: a19 :: a20 :: a21 :: a22 :: some v :: r) H3) : LcT (gName 23) tt te [23] (a0 :: a1 :: a2 :: a3 :: a4 :: a5 :: a6 :: a7 :: a8 :: a9 :: a10 :: a11 :: a12 :: a13 :: a14 :: a15 :: a16 :: a17 :: a18 :: a19 :: a20 :: a21 :: a22 :: a23 :: r) v H R := ⟨rfl, h⟩
theorem gv_24 (h : Q v H) : tVar 24 (a0 :: a1 :: a2 :: a3 :: a4 :: a5 :: a6 :: a7 :: a8 :: a9 :: a10 :: a11 :: a12 :: a13 :: a14 :: a15 :: a16 :: a17 :: a18 :: a19 :: a20 :: a21 :: a22 :: a23 :: some v :: r) H Q := ⟨v, rfl, h⟩
theorem gn_24 (h : nx (a0 :: a1 :: a2 :: a3 :: a4 :: a5 :: a6 :: a7 :: a8 :: a9 :: a10 :: a11 :: a12 :: a13 :: a14 :: a15 :: a16 :: a17 :: a18 :: a19 :: a20 :: a21 :: a22 :: a23 :: some v :: r) H) : gName 24 v (a0 :: a1 :: a2 :: a3 :: a4 :: a5 :: a6 :: a7 :: a8 :: a9 :: a10 :: a11 :: a12 :: a13 :: a14 :: a15 :: a16 :: a17 :: a18 :: a19 :: a20 :: a21 :: a22 :: a23 :: a24 :: r) H nx := h
theorem lct_24 (h : tt (a0 :: a1 :: a2 :: a3 :: a4 :: a5 :: a6 :: a7 :: a8 :: a9 :: a10 :: a11 :: a12 :: a13 :: a14 :: a15 :: a16 :: a17 :: a18 :: a19 :: a20 :: a21 :: a22 :: a23 :: some v :: r) H fun b H3 => LcE R te b (a0 :: a1 :: a2 :: a3 :: a4 :: a5 :: a6 :: a7 :: a8 :: a9 :: a10 :: a11 :: a12 :: a13 :: a14 :: a15 :: a16 :: a17 :: a18 :: a19 :: a20 :: a21 :: a22 :: a23 :: some v :: r) H3) : LcT (gName 24) tt te [24] (a0 :: a1 :: a2 :: a3 :: a4 :: a5 :: a6 :: a7 :: a8 :: a9 :: a10 :: a11 :: a12 :: a13 :: a14 :: a15 :: a16 :: a17 :: a18 :: a19 :: a20 :: a21 :: a22 :: a23 :: a24 :: r) v H R := ⟨rfl, h⟩
theorem gv_25 (h : Q v H) : tVar 25 (a0 :: a1 :: a2 :: a3 :: a4 :: a5 :: a6 :: a7 :: a8 :: a9 :: a10 :: a11 :: a12 :: a13 :: a14 :: a15 :: a16 :: a17 :: a18 :: a19 :: a20 :: a21 :: a22 :: a23 :: a24 :: some v :: r) H Q := ⟨v, rfl, h⟩
theorem gn_25 (h : nx (a0 :: a1 :: a2 :: a3 :: a4 :: a5 :: a6 :: a7 :: a8 :: a9 :: a10 :: a11 :: a12 :: a13 :: a14 :: a15 :: a16 :: a17 :: a18 :: a19 :: a20 :: a21 :: a22 :: a23 :: a24 :: some v :: r) H) : gName 25 v (a0 :: a1 :: a2 :: a3 :: a4 :: a5 :: a6 :: a7 :: a8 :: a9 :: a10 :: a11 :: a12 :: a13 :: a14 :: a15 :: a16 :: a17 :: a18 :: a19 :: a20 :: a21 :: a22 :: a23 :: a24 :: a25 :: r) H nx := h
theorem lct_25 (h : tt (a0 :: a1 :: a2 :: a3 :: a4 :: a5 :: a6 :: a7 :: a8 :: a9 :: a10 :: a11 :: a12 :: a13 :: a14 :: a15 :: a16 :: a17 :: a18 :: a19 :: a20 :: a21 :: a22 :: a23 :: a24 :: some v :: r) H fun b H3 => LcE R te b (a0 :: a1 :: a2 :: a3 :: a4 :: a5 :: a6 :: a7 :: a8 :: a9 :: a10 :: a11 :: a12 :: a13 :: a14 :: a15 :: a16 :: a17 :: a18 :: a19 :: a20 :: a21 :: a22 :: a23 :: a24 :: some v :: r) H3) : LcT (gName 25) tt te [25] (a0 :: a1 :: a2 :: a3 :: a4 :: a5 :: a6 :: a7 :: a8 :: a9 :: a10 :: a11 :: a12 :: a13 :: a14 :: a15 :: a16 :: a17 :: a18 :: a19 :: a20 :: a21 :: a22 :: a23 :: a24 :: a25 :: r) v H R := ⟨rfl, h⟩
theorem gv_26 (h : Q v H) : tVar 26 (a0 :: a1 :: a2 :: a3 :: a4 :: a5 :: a6 :: a7 :: a8 :: a9 :: a10 :: a11 :: a12 :: a13 :: a14 :: a15 :: a16 :: a17 :: a18 :: a19 :: a20 :: a21 :: a22 :: a23 :: a24 :: a25 :: some v :: r) H Q := ⟨v, rfl, h⟩
theorem gn_26 (h : nx (a0 :: a1 :: a2 :: a3 :: a4 :: a5 :: a6 :: a7 :: a8 :: a9 :: a10 :: a11 :: a12 :: a13 :: a14 :: a15 :: a16 :: a17 :: a18 :: a19 :: a20 :: a21 :: a22 :: a23 :: a24 :: a25 :: some v :: r) H) : gName 26 v (a0 :: a1 :: a2 :: a3 :: a4 :: a5 :: a6 :: a7 :: a8 :: a9 :: a10 :: a11 :: a12 :: a13 :: a14 :: a15 :: a16 :: a17 :: a18 :: a19 :: a20 :: a21 :: a22 :: a23 :: a24 :: a25 :: a26 :: r) H nx := h
theorem lct_26 (h : tt (a0 :: a1 :: a2 :: a3 :: a4 :: a5 :: a6 :: a7 :: a8 :: a9 :: a10 :: a11 :: a12 :: a13 :: a14 :: a15 :: a16 :: a17 :: a18 :: a19 :: a20 :: a21 :: a22 :: a23 :: a24 :: a25 :: some v :: r) H fun b H3 => LcE R te b (a0 :: a1 :: a2 :: a3 :: a4 :: a5 :: a6 :: a7 :: a8 :: a9 :: a10 :: a11 :: a12 :: a13 :: a14 :: a15 :: a16 :: a17 :: a18 :: a19 :: a20 :: a21 :: a22 :: a23 :: a24 :: a25 :: some v :: r) H3) : LcT (gName 26) tt te [26] (a0 :: a1 :: a2 :: a3 :: a4 :: a5 :: a6 :: a7 :: a8 :: a9 :: a10 :: a11 :: a12 :: a13 :: a14 :: a15 :: a16 :: a17 :: a18 :: a19 :: a20 :: a21 :: a22 :: a23 :: a24 :: a25 :: a26 :: r) v H R := ⟨rfl, h⟩
end
end L3

set_option Elab.async false
set_option linter.all false
set_option maxRecDepth 100000
set_option maxHeartbeats 2000000
/-! the eight words, and texts that are none of them. -/
namespace L3
open PySem L2 PyProof.Rows
/-- the keys of a written dict, in their order -/
def KeysAre : List Str → List DictEntry → Prop
  | [], [] => True
  | w :: ws, e :: es => (∃ t, e.key = .str w t) ∧ KeysAre ws es
  | _, _ => False
theorem keys_all : ∀ {ws : List Str} {es : List DictEntry}, KeysAre ws es → ∀ e ∈ es, ∃ w ∈ ws, ∃ t, e.key = .str w t
  | [], [], _, e, m => (List.not_mem_nil m).elim
  | [], _ :: _, h, _, _ => h.elim
  | _ :: _, [], h, _, _ => h.elim
  | w :: ws, e :: es, ⟨h, r⟩, x, m => by
    rcases List.mem_cons.mp m with rfl | m
    · exact ⟨w, List.mem_cons_self, h⟩
    · obtain ⟨v, hv, t⟩ := keys_all r x m
      exact ⟨v, List.mem_cons_of_mem _ hv, t⟩
theorem ns_none {K : PySem.W.Frag} {D : Addr} {es : Array DictEntry} {n : Nat} {ws : List Str} {x : Str} (hK : K.lookup D = some ⟨.type "dict", none, .dict es n, #[]⟩) (hk : KeysAre ws es.toList) (hx : ∀ w ∈ ws, ¬ x = w) : PySem.W.nsIn K D x = some none := by
  unfold PySem.W.nsIn
  rw [hK]
  have e1 : es.toList.find? (fun e => e.key.isStr x) = none := by
    rw [List.find?_eq_none]
    intro e m
    obtain ⟨w, hw, t, ht⟩ := keys_all hk e m
    rw [ht]
    intro h
    have h2 : (w == x) = true := h
    exact hx w hw (eq_of_beq h2).symm
  have e2 : es.toList.any (fun e => e.refKey) = false := by
    rw [List.any_eq_false]
    intro e m
    obtain ⟨w, hw, t, ht⟩ := keys_all hk e m
    unfold DictEntry.refKey
    rw [ht]
    exact Bool.false_ne_true
  show (match es.toList.find? (fun e => e.key.isStr x) with | some e => some (some e.val) | none => if es.toList.any (fun e => e.refKey) then none else some none) = some none
  rw [e1, e2]
  rfl
def words8 : List Str := ["same", "quarter", "half", "back", "flip", "mirror", "cross", "anti"]
theorem wd_mem : ∀ g : Fin 8, wd g ∈ words8 := by decide +kernel
theorem words_wd {w : Str} (h : w ∈ words8) : ∃ g : Fin 8, w = wd g := by
  simp only [words8, List.mem_cons, List.not_mem_nil, or_false] at h
  rcases h with rfl | rfl | rfl | rfl | rfl | rfl | rfl | rfl
  · exact ⟨0, rfl⟩
  · exact ⟨1, rfl⟩
  · exact ⟨2, rfl⟩
  · exact ⟨3, rfl⟩
  · exact ⟨4, rfl⟩
  · exact ⟨5, rfl⟩
  · exact ⟨6, rfl⟩
  · exact ⟨7, rfl⟩
theorem wd_tk (g : Fin 8) : TK 7 (wd g) ∧ 4 ≤ (wd g).length ∧ ∀ c ∈ (wd g).cps.toList, c < 128 := by
  rcases fin8 g with rfl | rfl | rfl | rfl | rfl | rfl | rfl | rfl <;> exact ⟨⟨by decide +kernel, by decide +kernel⟩, by decide +kernel, by decide +kernel⟩
section
variable {K : PySem.W.Frag} {H : Hp} {Q : VK} {σ : L2.St}
def rUp : V → List V → Hp → VK → Prop := fun x xs H Q => ∃ a, x = .str a ∧ xs = [] ∧ a.length ≤ 5592405 ∧ Q (.str (Txt.upper a)) H
theorem pe_up {X : Cx} {o : Expr} {to : TE} {apos pos : Pos} (ho : PE X o to) (hbase : attributeBase o "upper" X.env (eval o X.env) = eval o X.env := by rfl) (hline : (apos.endLine == pos.line) = true := by rfl) :
    PE X (.Call (.Attribute o "upper" apos) [] [] pos) (tM0 rUp to) := pe_m0 F.slot_str_upper F.type_str_upper mt_upper ho hbase hline
theorem o_up {c : Nat} (hc : c < 128) (k : ∀ z, TK 1 z → Q (.str z) H) : rUp (.str (S [c])) [] H Q := by
  refine ⟨_, rfl, rfl, by rw [SX.S_len]; show 1 ≤ 5592405; decide, ?_⟩
  rw [SX.upper_S (a := [c]) (by simp; exact hc)]
  refine k _ (.of (by simp) fun d hd => ?_)
  rw [List.map_cons, List.map_nil, List.mem_singleton] at hd
  subst hd
  unfold PyProof.Rows.up1
  split <;> omega
/-- an item of a text of few signs -/
theorem o_ixa {x : Str} {i : Int} (hl : x.length ≤ 1000) (ha : ∀ c ∈ x.cps.toList, c < 128) (h0 : 0 ≤ i) (h1 : i < x.length) (k : ∀ c, c < 128 → TK 1 (S [c]) → Q (.str (S [c])) H) : rIx K (.str x) (.int i) H Q := by
  have e : x = S x.cps.toList := (SX.S_tl x).symm
  have el : x.length = x.cps.toList.length := (congrArg PySem.Str.length e).trans (SX.S_len _)
  have hi : i.toNat < x.cps.toList.length := by omega
  refine .inr (.inr ⟨x, i, x.cps.toList[i.toNat], rfl, rfl, Nat.le_trans hl (by decide), ?_, k _ (ha _ (List.getElem_mem hi)) (.of (by simp) (fun d hd => by rw [List.mem_singleton.mp hd]; have := ha _ (List.getElem_mem hi); omega))⟩)
  unfold atI ixN
  have hi2 : (i : Int) < x.cps.size := by
    have : x.cps.size = x.cps.toList.length := by simp
    omega
  simp only [Array.size_eq_length_toList] at *
  rw [if_pos h0, if_pos (by omega)]
  simp [hi]
theorem isi_ss {s : Str} (h : Q (.bl true) H) : rIsi K [.str s, .ty "str"] H Q := ⟨_, _, _, _, true, rfl, .ty _, .base (.str s), kit_ty (by decide +kernel), h⟩
theorem shaped_turn {w : Str} (h : PyData.strOk w = true) : SeqAt.shaped (.list [.str "turn", .str w, .bool true]) = true := by
  have h2 : PyData.depth (.list [.str "turn", .str w, .bool true]) ≤ 64 := by
    simp only [PyData.depth, PyData.depthAll]
    omega
  show (PyData.canLay0 (.list [.str "turn", .str w, .bool true]) && decide (PyData.depth (.list [.str "turn", .str w, .bool true]) ≤ 64)) = true
  rw [Bool.and_eq_true]
  refine ⟨?_, decide_eq_true h2⟩
  have h3 : PyData.strOk "turn" = true := by decide +kernel
  simp only [PyData.canLay0, PyData.canLayAll0, h3, h, Bool.and_self]
theorem inV_strs (x : Str) : ∀ ws : List Str, inV (.str x) (ws.map V.str) = decide (x ∈ ws)
  | [] => rfl
  | w :: ws => by
    show (eqV (.str w) (.str x) || inV (.str x) (ws.map V.str)) = _
    rw [inV_strs x ws]
    have e : eqV (.str w) (.str x) = decide (x = w) := by
      show (w == x) = _
      by_cases z : x = w
      · subst z; simp
      · rw [decide_eq_false z]
        exact beq_false_of_ne fun q => z q.symm
    rw [e, Bool.eq_iff_iff, Bool.or_eq_true, decide_eq_true_iff, decide_eq_true_iff, decide_eq_true_iff, List.mem_cons]
theorem o_nin8 {a : Addr} {x : Str} {ws : List Str} (h1 : H a = some (.lst (ws.map V.str))) (k : Q (.bl (decide (¬ x ∈ ws))) H) : rIn K true (.str x) (.ref a) H Q := by
  refine ⟨a, _, rfl, .inl (SqL.of h1), rfl, ?_, ?_⟩
  · rw [List.all_eq_true]
    intro v hv
    obtain ⟨w, _, rfl⟩ := List.mem_map.mp hv
    rfl
  · show Q (.bl (!inV (.str x) (ws.map V.str))) H
    rw [inV_strs]
    have e : (!decide (x ∈ ws)) = decide (¬ x ∈ ws) := by by_cases z : x ∈ ws <;> simp [z]
    rw [e]
    exact k
end
end L3

set_option Elab.async false
set_option linter.all false
set_option maxRecDepth 100000
set_option maxHeartbeats 2000000
/-! primes and divisors. -/
namespace L3
open PySem L2 PyProof.Rows
/-- a prime -/
def Pr (p : Nat) : Prop := 2 ≤ p ∧ ∀ d, d ∣ p → d = 1 ∨ d = p
theorem Pr.cop {p d : Nat} (h : Pr p) (n : ¬ p ∣ d) : Nat.Coprime p d := by
  rcases h.2 _ (Nat.gcd_dvd_left p d) with e | e
  · exact e
  · exact absurd (e ▸ Nat.gcd_dvd_right p d) n
theorem Pr.dvd_mul {p a b : Nat} (h : Pr p) (m : p ∣ a * b) : p ∣ a ∨ p ∣ b := by
  by_cases z : p ∣ a
  · exact .inl z
  · exact .inr ((h.cop z).dvd_of_dvd_mul_left m)
theorem Pr.dvd_pow {p q : Nat} (h : Pr p) : ∀ {k : Nat}, p ∣ q ^ k → p ∣ q
  | 0, m => by
    have : p ≤ 1 := Nat.le_of_dvd (by decide) (by simpa using m)
    have := h.1
    omega
  | k + 1, m => by
    rw [Nat.pow_succ] at m
    rcases h.dvd_mul m with z | z
    · exact Pr.dvd_pow h z
    · exact z
theorem Pr.eq {p q : Nat} (h : Pr p) (g : Pr q) (m : p ∣ q) : p = q := by
  rcases g.2 _ m with e | e
  · have := h.1; omega
  · exact e
/-- each number from 2 on has a prime -/
theorem pr_ex : ∀ (n : Nat), 2 ≤ n → ∃ p, Pr p ∧ p ∣ n := by
  intro n
  induction n using Nat.strongRecOn with
  | _ n ih =>
    intro h
    by_cases z : Pr n
    · exact ⟨n, z, Nat.dvd_refl n⟩
    · have : ∃ d, d ∣ n ∧ d ≠ 1 ∧ d ≠ n := by
        apply Classical.byContradiction
        intro q
        exact z ⟨h, fun d m => Classical.byContradiction fun w => q ⟨d, m, fun e => w (.inl e), fun e => w (.inr e)⟩⟩
      obtain ⟨d, m, d1, dn⟩ := this
      have dl := Nat.le_of_dvd (by omega) m
      have d0 : d ≠ 0 := fun e => by subst e; have := Nat.eq_zero_of_zero_dvd m; omega
      obtain ⟨p, hp, pm⟩ := ih d (by omega) (by omega)
      exact ⟨p, hp, Nat.dvd_trans pm m⟩
/-- no divisor from 2 to below q -/
def Low (q r : Nat) : Prop := ∀ d, 2 ≤ d → d < q → ¬ d ∣ r
/-- the state of the search for primes: those found, the next candidate, the rest -/
structure Srch (n : Nat) (ps : List Nat) (q r : Nat) : Prop where
  r1 : 1 ≤ r
  q2 : 2 ≤ q
  rn : r ∣ n
  low : Low q r
  up : ps.Pairwise (· < ·)
  lt : ∀ p ∈ ps, p < q
  pr : ∀ p ∈ ps, Pr p ∧ p ∣ n
  all : ∀ p, Pr p → p ∣ n → p ∈ ps ∨ p ∣ r
  len : 2 ^ ps.length * r ≤ n
theorem Srch.start {n : Nat} (h : 1 ≤ n) : Srch n [] 2 n := ⟨h, by omega, Nat.dvd_refl n, fun d a b => by omega, List.Pairwise.nil, fun p m => by simp at m, fun p m => by simp at m, fun p _ m => .inr m, by simp⟩
theorem Srch.next {n q r : Nat} {ps : List Nat} (h : Srch n ps q r) (z : ¬ q ∣ r) : Srch n ps (q + 1) r :=
  ⟨h.r1, by have := h.q2; omega, h.rn, fun d a b => by
    by_cases e : d = q
    · exact e ▸ z
    · exact h.low d a (by omega), h.up, fun p m => by have := h.lt p m; omega, h.pr, h.all, h.len⟩
theorem low_pr {q r : Nat} (h : Low q r) (q2 : 2 ≤ q) (r1 : 1 ≤ r) (z : q ∣ r) : Pr q := by
  refine ⟨q2, fun d m => Classical.byContradiction fun w => ?_⟩
  have dl := Nat.le_of_dvd (by omega) m
  have d0 : d ≠ 0 := fun e => by subst e; have := Nat.eq_zero_of_zero_dvd m; omega
  exact h d (by omega) (by omega) (Nat.dvd_trans m z)
/-- q is found: it stands in the list while it is divided out -/
structure Outs (n : Nat) (ps : List Nat) (q r : Nat) : Prop where
  r1 : 1 ≤ r
  q2 : 2 ≤ q
  rn : r ∣ n
  low : Low q r
  up : ps.Pairwise (· < ·)
  lt : ∀ p ∈ ps, p < q + 1
  pr : ∀ p ∈ ps, Pr p ∧ p ∣ n
  all : ∀ p, Pr p → p ∣ n → p ∈ ps ∨ p ∣ r
  mem : q ∣ r → q ∈ ps
  len : 2 ^ ps.length * r ≤ n ∨ (q ∣ r ∧ 2 ^ ps.length * (r / q) ≤ n)
theorem Srch.out {n q r : Nat} {ps : List Nat} (h : Srch n ps q r) (z : ¬ q ∣ r) : Outs n ps q r :=
  ⟨h.r1, h.q2, h.rn, h.low, h.up, fun p m => by have := h.lt p m; omega, h.pr, h.all, fun m => absurd m z, .inl h.len⟩
theorem Srch.found {n q r : Nat} {ps : List Nat} (h : Srch n ps q r) (z : q ∣ r) : Outs n (ps ++ [q]) q r :=
  ⟨h.r1, h.q2, h.rn, h.low, List.pairwise_append.mpr ⟨h.up, List.pairwise_singleton _ _, fun p m b mb => by rw [List.mem_singleton.mp mb]; exact h.lt p m⟩,
   fun p m => by
    rcases List.mem_append.mp m with m | m
    · have := h.lt p m; omega
    · rw [List.mem_singleton.mp m]; omega,
   fun p m => by
    rcases List.mem_append.mp m with m | m
    · exact h.pr p m
    · rw [List.mem_singleton.mp m]
      exact ⟨low_pr h.low h.q2 h.r1 z, Nat.dvd_trans z h.rn⟩,
   fun p a b => (h.all p a b).imp (fun m => List.mem_append_left _ m) id, fun _ => List.mem_append_right _ (List.mem_singleton.mpr rfl), .inr ⟨z, by
    have q2 := h.q2
    have e : 2 * (r / q) ≤ r := by
      have := Nat.div_mul_le_self r q
      have := Nat.mul_le_mul_left (r / q) q2
      omega
    have := h.len
    rw [List.length_append, List.length_singleton, Nat.pow_succ, Nat.mul_assoc]
    exact Nat.le_trans (Nat.mul_le_mul_left _ e) this⟩⟩
theorem Outs.div {n q r : Nat} {ps : List Nat} (h : Outs n ps q r) (z : q ∣ r) : Outs n ps q (r / q) ∧ r / q < r := by
  have q2 := h.q2
  have r1 := h.r1
  have hp := low_pr h.low q2 r1 z
  have dl := Nat.le_of_dvd (by omega) z
  have dr : r / q ∣ r := Nat.div_dvd_of_dvd z
  have d1 : 1 ≤ r / q := Nat.div_pos dl (by omega)
  refine ⟨⟨d1, q2, Nat.dvd_trans dr h.rn, fun d a b m => h.low d a b (Nat.dvd_trans m dr), h.up, h.lt, h.pr, fun p a b => ?_, fun _ => h.mem z, ?_⟩, Nat.div_lt_self (by omega) (by omega)⟩
  · rcases h.all p a b with m | m
    · exact .inl m
    · have e : r = q * (r / q) := (Nat.mul_div_cancel' z).symm
      rw [e] at m
      rcases a.dvd_mul m with m | m
      · exact .inl (a.eq hp m ▸ h.mem z)
      · exact .inr m
  · refine .inl ?_
    rcases h.len with k | k
    · exact Nat.le_trans (Nat.mul_le_mul_left _ (Nat.div_le_self r q)) k
    · exact k.2
theorem Outs.next {n q r : Nat} {ps : List Nat} (h : Outs n ps q r) (z : ¬ q ∣ r) : Srch n ps (q + 1) r :=
  ⟨h.r1, by have := h.q2; omega, h.rn, fun d a b => by
    by_cases e : d = q
    · exact e ▸ z
    · exact h.low d a (by omega), h.up, h.lt, h.pr, h.all, h.len.elim id fun k => absurd k.1 z⟩
/-- the ascending list of the primes of a number -/
structure Primes (n : Nat) (ps : List Nat) : Prop where
  up : ps.Pairwise (· < ·)
  iff : ∀ p, p ∈ ps ↔ Pr p ∧ p ∣ n
  len : 2 ^ ps.length ≤ n
theorem Srch.one {n q r : Nat} {ps : List Nat} (h : Srch n ps q r) (e : r ≤ 1) : Primes n ps := by
  have r1 := h.r1
  have : r = 1 := by omega
  subst this
  refine ⟨h.up, fun p => ⟨h.pr p, fun k => (h.all p k.1 k.2).elim id fun m => ?_⟩, by simpa using h.len⟩
  have := Nat.le_of_dvd (by omega) m
  have := k.1.1
  omega
theorem Srch.last {n q r : Nat} {ps : List Nat} (h : Srch n ps q r) (e : 1 < r) (z : r < q * q) : Primes n (ps ++ [r]) := by
  have qr : q ≤ r := by
    apply Classical.byContradiction
    intro w
    exact h.low r (by omega) (by omega) (Nat.dvd_refl r)
  have hr : Pr r := by
    refine ⟨e, fun d m => Classical.byContradiction fun w => ?_⟩
    obtain ⟨c, rfl⟩ := m
    have d0 : d ≠ 0 := fun k => by subst k; omega
    have c0 : c ≠ 0 := fun k => by subst k; omega
    have c1 : c ≠ 1 := fun k => by subst k; omega
    have a1 : ¬ d < q := fun k => h.low d (by omega) k (Nat.dvd_mul_right d c)
    have a2 : ¬ c < q := fun k => h.low c (by omega) k (Nat.dvd_mul_left c d)
    have := Nat.mul_le_mul (Nat.le_of_not_lt a1) (Nat.le_of_not_lt a2)
    omega
  refine ⟨List.pairwise_append.mpr ⟨h.up, List.pairwise_singleton _ _, fun p m b mb => by rw [List.mem_singleton.mp mb]; have := h.lt p m; omega⟩, fun p => ⟨fun m => ?_, fun k => ?_⟩, ?_⟩
  · rcases List.mem_append.mp m with m | m
    · exact h.pr p m
    · rw [List.mem_singleton.mp m]
      exact ⟨hr, h.rn⟩
  · rcases h.all p k.1 k.2 with m | m
    · exact List.mem_append_left _ m
    · exact List.mem_append_right _ (List.mem_singleton.mpr (k.1.eq hr m))
  · have := h.len
    rw [List.length_append, List.length_singleton, Nat.pow_succ]
    exact Nat.le_trans (Nat.mul_le_mul_left _ e) this
/-- the divisors of n whose primes are among some -/
structure Divs (n : Nat) (done : List Nat) (ds : List Nat) : Prop where
  nd : ds.Nodup
  iff : ∀ d, d ∈ ds ↔ d ∣ n ∧ ∀ p, Pr p → p ∣ d → p ∈ done
theorem Divs.start {n : Nat} (h : 1 ≤ n) : Divs n [] [1] := ⟨by simp, fun d => by
  rw [List.mem_singleton]
  constructor
  · rintro rfl
    refine ⟨Nat.one_dvd n, fun p hp m => ?_⟩
    have := Nat.le_of_dvd (by omega) m
    have := hp.1
    omega
  · rintro ⟨a, b⟩
    apply Classical.byContradiction
    intro w
    have d0 : d ≠ 0 := fun e => by subst e; have := Nat.eq_zero_of_zero_dvd a; omega
    obtain ⟨p, hp, m⟩ := pr_ex d (by omega)
    exact List.not_mem_nil (b p hp m)⟩
/-- the same while the powers of one prime are put in, up to the k-th -/
structure Inn (n : Nat) (done : List Nat) (p k : Nat) (ds : List Nat) : Prop where
  nd : ds.Nodup
  iff : ∀ d, d ∈ ds ↔ d ∣ n ∧ (∀ q, Pr q → q ∣ d → q ∈ done ∨ q = p) ∧ ¬ p ^ (k + 1) ∣ d
theorem Divs.inn {n p : Nat} {done ds : List Nat} (h : Divs n done ds) (np : p ∉ done) (hp : Pr p) : Inn n done p 0 ds := ⟨h.nd, fun d => by
  rw [h.iff d, Nat.zero_add, Nat.pow_one]
  constructor
  · rintro ⟨a, b⟩
    exact ⟨a, fun q hq m => .inl (b q hq m), fun m => np (b p hp m)⟩
  · rintro ⟨a, b, c⟩
    exact ⟨a, fun q hq m => (b q hq m).elim id fun e => absurd (e ▸ m) c⟩⟩
theorem Inn.step {n p k : Nat} {done ws ds : List Nat} (h : Inn n done p k ds) (g : Divs n done ws) (np : p ∉ done) (hp : Pr p) (z : p ^ (k + 1) ∣ n) : Inn n done p (k + 1) (ds ++ ws.map (· * p ^ (k + 1))) := by
  have p0 : 0 < p ^ (k + 1) := Nat.pow_pos (by have := hp.1; omega)
  refine ⟨List.pairwise_append.mpr ⟨h.nd, List.pairwise_map.mpr (g.nd.imp fun {a b} q e => q (Nat.eq_of_mul_eq_mul_right p0 e)), fun a ha b hb e => ?_⟩, fun d => ?_⟩
  · obtain ⟨w, _, rfl⟩ := List.mem_map.mp hb
    exact ((h.iff a).mp ha).2.2 (e ▸ Nat.dvd_mul_left _ _)
  · rw [List.mem_append, h.iff d]
    constructor
    · rintro (⟨a, b, c⟩ | m)
      · exact ⟨a, b, fun m => c (Nat.dvd_trans (Nat.pow_dvd_pow p (by omega)) m)⟩
      · obtain ⟨e, he, rfl⟩ := List.mem_map.mp m
        obtain ⟨a, b⟩ := (g.iff e).mp he
        have pe : ¬ p ∣ e := fun m => np (b p hp m)
        refine ⟨((hp.cop pe).symm.pow_right _).mul_dvd_of_dvd_of_dvd a z, fun q hq m => ?_, fun m => ?_⟩
        · rcases hq.dvd_mul m with m | m
          · exact .inl (b q hq m)
          · exact .inr (hq.eq hp (hq.dvd_pow m))
        · rw [Nat.pow_succ p (k + 1), Nat.mul_comm e] at m
          exact pe (Nat.dvd_of_mul_dvd_mul_left p0 m)
    · rintro ⟨a, b, c⟩
      by_cases w : p ^ (k + 1) ∣ d
      · right
        obtain ⟨e, rfl⟩ := w
        refine List.mem_map.mpr ⟨e, (g.iff e).mpr ⟨Nat.dvd_trans (Nat.dvd_mul_left _ _) a, fun q hq m => ?_⟩, Nat.mul_comm _ _⟩
        rcases b q hq (Nat.dvd_trans m (Nat.dvd_mul_left _ _)) with r | r
        · exact r
        · subst r
          refine absurd ?_ c
          rw [Nat.pow_succ q (k + 1)]
          exact Nat.mul_dvd_mul_left _ m
      · exact .inl ⟨a, b, w⟩
theorem Inn.done {n p k : Nat} {done ds : List Nat} (h : Inn n done p k ds) (z : ¬ p ^ (k + 1) ∣ n) : Divs n (done ++ [p]) ds := ⟨h.nd, fun d => by
  rw [h.iff d]
  constructor
  · rintro ⟨a, b, c⟩
    refine ⟨a, fun q hq m => ?_⟩
    rw [List.mem_append, List.mem_singleton]
    exact b q hq m
  · rintro ⟨a, b⟩
    refine ⟨a, fun q hq m => ?_, fun m => z (Nat.dvd_trans m a)⟩
    have := b q hq m
    rwa [List.mem_append, List.mem_singleton] at this⟩
theorem Divs.all {n : Nat} {ps ds : List Nat} (h : Divs n ps ds) (g : Primes n ps) (d : Nat) : d ∈ ds ↔ d ∣ n := by
  rw [h.iff d]
  exact ⟨fun q => q.1, fun q => ⟨q, fun p hp m => (g.iff p).mpr ⟨hp, Nat.dvd_trans m q⟩⟩⟩
/-- the ascending list of the divisors of a number -/
structure AllDivs (n : Nat) (ds : List Nat) : Prop where
  up : ds.Pairwise (· < ·)
  iff : ∀ d, d ∈ ds ↔ d ∣ n
/-- a number with few divisors -/
def Few (n m : Nat) : Prop := ∀ l : List Nat, l.Nodup → (∀ d ∈ l, d ∣ n) → l.length ≤ m
theorem AllDivs.few {n : Nat} {ds : List Nat} (h : AllDivs n ds) : Few n ds.length := fun l nd hd => nd.length_le_of_subset fun d m => (h.iff d).mpr (hd d m)
theorem up_unique : ∀ {a b : List Nat}, a.Pairwise (· < ·) → b.Pairwise (· < ·) → (∀ d, d ∈ a ↔ d ∈ b) → a = b
  | [], [], _, _, _ => rfl
  | [], y :: b, _, _, h => absurd ((h y).mpr List.mem_cons_self) List.not_mem_nil
  | x :: a, [], _, _, h => absurd ((h x).mp List.mem_cons_self) List.not_mem_nil
  | x :: a, y :: b, ha, hb, h => by
    obtain ⟨a1, a2⟩ := List.pairwise_cons.mp ha
    obtain ⟨b1, b2⟩ := List.pairwise_cons.mp hb
    have e : x = y := by
      rcases List.mem_cons.mp ((h x).mp List.mem_cons_self) with e | m
      · exact e
      · rcases List.mem_cons.mp ((h y).mpr List.mem_cons_self) with e | m2
        · exact e.symm
        · have := a1 y m2; have := b1 x m; omega
    subst e
    congr 1
    refine up_unique a2 b2 fun d => ⟨fun m => ?_, fun m => ?_⟩
    · rcases List.mem_cons.mp ((h d).mp (List.mem_cons_of_mem _ m)) with e | k
      · have := a1 d m; omega
      · exact k
    · rcases List.mem_cons.mp ((h d).mpr (List.mem_cons_of_mem _ m)) with e | k
      · have := b1 d m; omega
      · exact k
/-! name += int -/
section
variable {K : PySem.W.Frag} {H : Hp} {σ : L2.St} {i : Nat} {te : TE} {x j : Int} {nx bk ct : L2.St → Hp → Prop} {rt : VK} {f : Int → Int → Int}
def AugI (f : Int → Int → Int) (x : Int) (y : V) (i : Nat) (σ : L2.St) (H : Hp) (nx : L2.St → Hp → Prop) : Prop := ipI f (.int x) y H fun z H2 => nx (σ.set i (some z)) H2
theorem g_augI (hx : σ[i]? = some (some (.int x))) (h : te σ H fun y H1 => AugI f x y i σ H1 nx) : tAug i te (ipI f) ⟨nx, rt, bk, ct⟩ σ H := ⟨_, hx, h⟩
theorem augI_add (h : gName i (.int (x + j)) σ H nx) : AugI (fun i j => i + j) x (.int j) i σ H nx := ⟨x, j, rfl, rfl, h⟩
theorem augI_sub (h : gName i (.int (x - j)) σ H nx) : AugI (fun i j => i - j) x (.int j) i σ H nx := ⟨x, j, rfl, rfl, h⟩
end
theorem srt_nat {ds : List Nat} {ns : List Int} (nd : ds.Nodup) (pm : ns.Perm (ds.map fun d : Nat => (d : Int))) (up : ns.Pairwise (· ≤ ·)) : ∃ es : List Nat, ns = es.map (fun d : Nat => (d : Int)) ∧ es.Pairwise (· < ·) ∧ ∀ d, d ∈ es ↔ d ∈ ds := by
  have hpos : ∀ x ∈ ns, ∃ d ∈ ds, ((d : Nat) : Int) = x := fun x m => List.mem_map.mp (pm.mem_iff.mp m)
  have nd2 : ns.Nodup := pm.nodup_iff.mpr (List.pairwise_map.mpr (nd.imp fun {a b} q e => q (Int.ofNat.inj e)))
  have lt : ns.Pairwise (· < ·) := (up.and nd2).imp fun {a b} q => by have := q.1; have := q.2; omega
  have e1 : ns = (ns.map Int.toNat).map (fun d : Nat => (d : Int)) := by
    rw [List.map_map]
    have : ns.map ((fun d : Nat => (d : Int)) ∘ Int.toNat) = ns.map id := List.map_congr_left fun x m => by
      obtain ⟨d, _, rfl⟩ := hpos x m
      rfl
    rw [this, List.map_id]
  refine ⟨ns.map Int.toNat, e1, List.pairwise_map.mpr (lt.imp_of_mem fun {a b} ma mb q => ?_), fun d => ?_⟩
  · obtain ⟨x, _, rfl⟩ := hpos a ma
    obtain ⟨y, _, rfl⟩ := hpos b mb
    show x < y
    omega
  · rw [List.mem_map]
    constructor
    · rintro ⟨x, m, rfl⟩
      obtain ⟨y, hy, rfl⟩ := hpos x m
      exact hy
    · intro m
      exact ⟨(d : Int), pm.mem_iff.mpr (List.mem_map.mpr ⟨d, m, rfl⟩), rfl⟩
/-! keys of dicts -/
section
variable {K : PySem.W.Frag} {H : Hp} {Q : VK} {X : Cx}
def rInD : R2 := fun y x H Q => ∃ a o, x = .ref a ∧ DGet H a y o ∧ Q (.bl o.isSome) H
theorem op_inD (hu : X.A.units + 64 < cLine) : OpR X (compareOp .In) rInD := by
  intro pins s σ H y x u v Q I ry rx h
  obtain ⟨a, o, rfl, g, q⟩ := h
  obtain rfl : v = Value.ref a := rx
  exact d_in (by omega) I g ry fun s3 I3 => ⟨.bl o.isSome, H, I3, rfl, q⟩
def rNinD : R2 := fun y x H Q => ∃ a o, x = .ref a ∧ DGet H a y o ∧ Q (.bl (!o.isSome)) H
theorem op_ninD (hu : X.A.units + 64 < cLine) : OpR X (compareOp .NotIn) rNinD := by
  intro pins s σ H y x u v Q I ry rx h
  obtain ⟨a, o, rfl, g, q⟩ := h
  obtain rfl : v = Value.ref a := rx
  exact d_notIn (by omega) I g ry fun s3 I3 => ⟨.bl (!o.isSome), H, I3, rfl, q⟩
/-- the keys are these numbers -/
def Keys (kvs : List (Key × V)) (cs : List Nat) : Prop := ∀ z : Nat, (valV kvs (Sum.inl (z : Int))).isSome = decide (z ∈ cs)
theorem o_inD {a : Addr} {kvs : List (Key × V)} {cs : List Nat} {z : Nat} (h1 : H a = some (.dK kvs)) (h2 : Keys kvs cs) (k : Q (.bl (decide (z ∈ cs))) H) : rInD (.int (z : Int)) (.ref a) H Q := ⟨a, _, rfl, DGet.k h1 (k := Sum.inl (z : Int)), by rw [h2 z]; exact k⟩
end
/-- a number tells the same without a prime -/
def Needless (p r : Nat) (ds cs : List Nat) : Prop := ∀ d ∈ ds, d ∣ r → ¬ p ∣ r / d → (d ∈ cs ↔ d / p ∈ cs)
/-- dividing a prime out of the number keeps which sizes are chosen -/
theorem needless_ok {p r x : Nat} {ds cs : List Nat} (hp : Pr p) (r1 : 1 ≤ r) (pr : p ∣ r) (hd : ∀ d, d ∣ r → d ∈ ds) (h : Needless p r ds cs) : Nat.gcd x (r / p) ∈ cs ↔ Nat.gcd x r ∈ cs := by
  obtain ⟨q, rfl⟩ := pr
  have p0 : 0 < p := by have := hp.1; omega
  have q0 : 0 < q := Nat.pos_of_ne_zero fun e => by subst e; omega
  rw [Nat.mul_div_cancel_left q p0]
  generalize hg : Nat.gcd x (p * q) = g
  have gx : g ∣ x := hg ▸ Nat.gcd_dvd_left _ _
  have gr : g ∣ p * q := hg ▸ Nat.gcd_dvd_right _ _
  have g0 : 0 < g := Nat.pos_of_dvd_of_pos gr (Nat.mul_pos p0 q0)
  obtain ⟨t, ht⟩ := gr
  by_cases z : p ∣ t
  · -- the prime is not full in the divisor: the same divisor
    obtain ⟨u, rfl⟩ := z
    have e : q = g * u := Nat.eq_of_mul_eq_mul_left p0 (by rw [ht]; simp only [Nat.mul_left_comm])
    have e2 : Nat.gcd x q = g := by
      refine Nat.dvd_antisymm ?_ (Nat.dvd_gcd gx ⟨u, e⟩)
      rw [← hg]
      exact Nat.dvd_gcd (Nat.gcd_dvd_left _ _) (Nat.dvd_trans (Nat.gcd_dvd_right _ _) (Nat.dvd_mul_left q p))
    rw [e2]
  · have pg : p ∣ g := by
      have : p ∣ g * t := ⟨q, ht.symm⟩
      exact (hp.dvd_mul this).elim id fun m => absurd m z
    obtain ⟨v, rfl⟩ := pg
    have e : q = v * t := Nat.eq_of_mul_eq_mul_left p0 (by rw [ht, Nat.mul_assoc])
    have v0 : 0 < v := Nat.pos_of_ne_zero fun k => by subst k; omega
    have e2 : Nat.gcd x q = v := by
      have a1 : v ∣ Nat.gcd x q := Nat.dvd_gcd (Nat.dvd_trans (Nat.dvd_mul_left v p) gx) ⟨t, e⟩
      have a2 : Nat.gcd x q ∣ p * v := by
        rw [← hg]
        exact Nat.dvd_gcd (Nat.gcd_dvd_left _ _) (Nat.dvd_trans (Nat.gcd_dvd_right _ _) (Nat.dvd_mul_left q p))
      obtain ⟨w, hw⟩ := a1
      have a3 : w ∣ p := by
        rw [hw, Nat.mul_comm p v] at a2
        exact Nat.dvd_of_mul_dvd_mul_left v0 a2
      rcases hp.2 w a3 with rfl | rfl
      · rw [hw, Nat.mul_one]
      · refine absurd ?_ z
        have a4 : v * w ∣ q := hw ▸ Nat.gcd_dvd_right x q
        rw [e] at a4
        exact Nat.dvd_of_mul_dvd_mul_left v0 a4
    have hn := h (p * v) (hd _ ⟨t, ht⟩) ⟨t, ht⟩ (by rw [ht, Nat.mul_div_cancel_left t g0]; exact z)
    rw [Nat.mul_div_cancel_left v p0] at hn
    rw [e2]
    exact hn.symm
end L3

set_option Elab.async false
set_option linter.all false
set_option maxRecDepth 100000
set_option maxHeartbeats 2000000
/-! dict comprehensions over lists. -/
namespace L3
open PySem L2 PyProof.Rows
theorem snoc_ind {α : Type} {motive : List α → Prop} (h0 : motive []) (hs : ∀ l x, motive l → motive (l ++ [x])) (l : List α) : motive l := by
  have h : ∀ m : List α, motive m.reverse := by
    intro m
    induction m with
    | nil => exact h0
    | cons x m ih =>
      rw [List.reverse_cons]
      exact hs _ _ ih
  have := h l.reverse
  rwa [List.reverse_reverse] at this
section
variable {K : PySem.W.Frag} {H : Hp} {Q : VK} {σ : L2.St} {a : Addr} {g : TG} {tt : TT} {tk tv tl : TE} {vs : List Nat} {xs : List V} {R : Option (V × V) → Hp → Prop} {v : V} {b : Bool}
def DcE (R : Option (V × V) → Hp → Prop) (tk tv : TE) (b : Bool) (σ : L2.St) (H : Hp) : Prop := if b = true then tk σ H fun y H4 => tv σ H4 fun z H5 => R (some (y, z)) H5 else R none H
def DcT (g : TG) (tt : TT) (tk tv : TE) (vs : List Nat) (σ : L2.St) (x : V) (H : Hp) (R : Option (V × V) → Hp → Prop) : Prop := g x (wipe σ vs) H fun σ2 H2 => wipe σ2 vs = wipe σ vs ∧ tt σ2 H2 fun b H3 => DcE R tk tv b σ2 H3
theorem dce_T (h : tk σ H fun y H4 => tv σ H4 fun z H5 => R (some (y, z)) H5) : DcE R tk tv true σ H := h
theorem dce_F (h : R none H) : DcE R tk tv false σ H := h
def DcL (K : PySem.W.Frag) (g : TG) (tt : TT) (tk tv : TE) (vs : List Nat) (σ : L2.St) (x : V) (H1 : Hp) (Q : VK) : Prop := ∃ a, x = .ref a ∧ (∃ xs, SqL K H1 a xs) ∧ ∀ D, H1 D = none → ∃ W : Nat → Nat → Hp → Prop, (∃ m, W 0 m (upd H1 D (.dK []))) ∧ ∀ i m H, W i m H →
  ((Itl K a).stop i H ∧ Q (.ref D) H) ∨ ((Itl K a).go i H ∧ ∃ Nx : Hp → Prop, (∀ H', Nx H' → ∃ m', m' < m ∧ W (i + 1) m' H') ∧ ∀ x H', (Itl K a).yld i H x H' → g x (wipe σ vs) H' fun σ2 H2 => wipe σ2 vs = wipe σ vs ∧ tt σ2 H2 fun b H3 =>
    if b = true then tk σ2 H3 fun y H4 => tv σ2 H4 fun z H5 => ∃ kvs k, y = kV k ∧ H5 D = some (.dK kvs) ∧ kvs.length < sizeLine ∧ Nx (upd H5 D (.dK (putK kvs k z))) else Nx H3)
theorem g_dcl (h : tl σ H fun x H1 => DcL K g tt tk tv vs σ x H1 Q) : tDc (iList K tl) g tt tk tv vs σ H Q := h
section
variable {a0 a1 a2 a3 a4 a5 a6 a7 a8 a9 a10 a11 a12 a13 : Option V} {r : L2.St}
theorem dct_0 (h : tt (some v :: r) H fun b H3 => DcE R tk tv b (some v :: r) H3) : DcT (gName 0) tt tk tv [0] (a0 :: r) v H R := ⟨rfl, h⟩
theorem dct_1 (h : tt (a0 :: some v :: r) H fun b H3 => DcE R tk tv b (a0 :: some v :: r) H3) : DcT (gName 1) tt tk tv [1] (a0 :: a1 :: r) v H R := ⟨rfl, h⟩
theorem dct_2 (h : tt (a0 :: a1 :: some v :: r) H fun b H3 => DcE R tk tv b (a0 :: a1 :: some v :: r) H3) : DcT (gName 2) tt tk tv [2] (a0 :: a1 :: a2 :: r) v H R := ⟨rfl, h⟩
theorem dct_3 (h : tt (a0 :: a1 :: a2 :: some v :: r) H fun b H3 => DcE R tk tv b (a0 :: a1 :: a2 :: some v :: r) H3) : DcT (gName 3) tt tk tv [3] (a0 :: a1 :: a2 :: a3 :: r) v H R := ⟨rfl, h⟩
theorem dct_4 (h : tt (a0 :: a1 :: a2 :: a3 :: some v :: r) H fun b H3 => DcE R tk tv b (a0 :: a1 :: a2 :: a3 :: some v :: r) H3) : DcT (gName 4) tt tk tv [4] (a0 :: a1 :: a2 :: a3 :: a4 :: r) v H R := ⟨rfl, h⟩
theorem dct_5 (h : tt (a0 :: a1 :: a2 :: a3 :: a4 :: some v :: r) H fun b H3 => DcE R tk tv b (a0 :: a1 :: a2 :: a3 :: a4 :: some v :: r) H3) : DcT (gName 5) tt tk tv [5] (a0 :: a1 :: a2 :: a3 :: a4 :: a5 :: r) v H R := ⟨rfl, h⟩
theorem dct_6 (h : tt (a0 :: a1 :: a2 :: a3 :: a4 :: a5 :: some v :: r) H fun b H3 => DcE R tk tv b (a0 :: a1 :: a2 :: a3 :: a4 :: a5 :: some v :: r) H3) : DcT (gName 6) tt tk tv [6] (a0 :: a1 :: a2 :: a3 :: a4 :: a5 :: a6 :: r) v H R := ⟨rfl, h⟩
theorem dct_7 (h : tt (a0 :: a1 :: a2 :: a3 :: a4 :: a5 :: a6 :: some v :: r) H fun b H3 => DcE R tk tv b (a0 :: a1 :: a2 :: a3 :: a4 :: a5 :: a6 :: some v :: r) H3) : DcT (gName 7) tt tk tv [7] (a0 :: a1 :: a2 :: a3 :: a4 :: a5 :: a6 :: a7 :: r) v H R := ⟨rfl, h⟩
theorem dct_8 (h : tt (a0 :: a1 :: a2 :: a3 :: a4 :: a5 :: a6 :: a7 :: some v :: r) H fun b H3 => DcE R tk tv b (a0 :: a1 :: a2 :: a3 :: a4 :: a5 :: a6 :: a7 :: some v :: r) H3) : DcT (gName 8) tt tk tv [8] (a0 :: a1 :: a2 :: a3 :: a4 :: a5 :: a6 :: a7 :: a8 :: r) v H R := ⟨rfl, h⟩
theorem dct_9 (h : tt (a0 :: a1 :: a2 :: a3 :: a4 :: a5 :: a6 :: a7 :: a8 :: some v :: r) H fun b H3 => DcE R tk tv b (a0 :: a1 :: a2 :: a3 :: a4 :: a5 :: a6 :: a7 :: a8 :: some v :: r) H3) : DcT (gName 9) tt tk tv [9] (a0 :: a1 :: a2 :: a3 :: a4 :: a5 :: a6 :: a7 :: a8 :: a9 :: r) v H R := ⟨rfl, h⟩
theorem dct_10 (h : tt (a0 :: a1 :: a2 :: a3 :: a4 :: a5 :: a6 :: a7 :: a8 :: a9 :: some v :: r) H fun b H3 => DcE R tk tv b (a0 :: a1 :: a2 :: a3 :: a4 :: a5 :: a6 :: a7 :: a8 :: a9 :: some v :: r) H3) : DcT (gName 10) tt tk tv [10] (a0 :: a1 :: a2 :: a3 :: a4 :: a5 :: a6 :: a7 :: a8 :: a9 :: a10 :: r) v H R := ⟨rfl, h⟩
theorem dct_11 (h : tt (a0 :: a1 :: a2 :: a3 :: a4 :: a5 :: a6 :: a7 :: a8 :: a9 :: a10 :: some v :: r) H fun b H3 => DcE R tk tv b (a0 :: a1 :: a2 :: a3 :: a4 :: a5 :: a6 :: a7 :: a8 :: a9 :: a10 :: some v :: r) H3) : DcT (gName 11) tt tk tv [11] (a0 :: a1 :: a2 :: a3 :: a4 :: a5 :: a6 :: a7 :: a8 :: a9 :: a10 :: a11 :: r) v H R := ⟨rfl, h⟩
theorem dct_12 (h : tt (a0 :: a1 :: a2 :: a3 :: a4 :: a5 :: a6 :: a7 :: a8 :: a9 :: a10 :: a11 :: some v :: r) H fun b H3 => DcE R tk tv b (a0 :: a1 :: a2 :: a3 :: a4 :: a5 :: a6 :: a7 :: a8 :: a9 :: a10 :: a11 :: some v :: r) H3) : DcT (gName 12) tt tk tv [12] (a0 :: a1 :: a2 :: a3 :: a4 :: a5 :: a6 :: a7 :: a8 :: a9 :: a10 :: a11 :: a12 :: r) v H R := ⟨rfl, h⟩
end
/-- the dict that some entries make, one after the other -/
def madeD (es : List (Key × V)) : List (Key × V) := es.foldl (fun m e => putK m e.1 e.2) []
theorem madeD_snoc (es : List (Key × V)) (e : Key × V) : madeD (es ++ [e]) = putK (madeD es) e.1 e.2 := by
  unfold madeD
  rw [List.foldl_append]
  rfl
theorem madeD_len (es : List (Key × V)) : (madeD es).length ≤ es.length := by
  induction es using snoc_ind with
  | h0 => exact Nat.le_refl _
  | hs es e ih =>
    rw [madeD_snoc, List.length_append]
    have := length_putK (madeD es) e.1 e.2
    simp only [List.length_singleton]
    omega
theorem take_fmG {α β : Type} {f : α → Option β} {xs : List α} {i : Nat} {x : α} (h : xs[i]? = some x) : (xs.take (i + 1)).filterMap f = (xs.take i).filterMap f ++ (f x).toList := by
  rw [List.take_succ, h, List.filterMap_append]
  show _ ++ [x].filterMap f = _
  cases e : f x <;> simp [e]
theorem dcl_fun (f : V → Option (Key × V)) (h1 : SqL K H a xs) (hz : xs.length ≤ 100000)
    (hs : ∀ x ∈ xs, ∀ H1, Same H H1 → ∀ R : Option (V × V) → Hp → Prop, (∀ H2, Same H1 H2 → R ((f x).map fun p => (kV p.1, p.2)) H2) → DcT g tt tk tv vs σ x H1 R)
    (k : ∀ D H', Fr H D → Same H H' → H' D = some (.dK (madeD (xs.filterMap f))) → Q (.ref D) H') : DcL K g tt tk tv vs σ (.ref a) H Q := by
  refine ⟨a, rfl, ⟨xs, h1⟩, fun D hD => ?_⟩
  have room : ∀ i, (madeD ((xs.take i).filterMap f)).length < sizeLine := fun i => by
    have l1 := madeD_len ((xs.take i).filterMap f)
    have l2 := List.length_filterMap_le f (xs.take i)
    have l3 := List.length_take_le i xs
    have l4 : (100000 : Nat) < sizeLine := by decide
    rw [List.length_take] at l2
    omega
  refine ⟨fun i m H' => m = xs.length - i ∧ i ≤ xs.length ∧ Same H H' ∧ H' D = some (.dK (madeD ((xs.take i).filterMap f))), ⟨_, rfl, Nat.zero_le _, same_upd hD, upd_same⟩, ?_⟩
  rintro i m H1 ⟨rfl, hi, sH, eD⟩
  have q := sH.seq h1
  by_cases lt : i < xs.length
  · right
    refine ⟨⟨xs, xs[i], q, by simp [lt]⟩, fun H' => Same H H' ∧ H' D = some (.dK (madeD ((xs.take (i + 1)).filterMap f))), fun H' p => ⟨xs.length - (i + 1), by omega, rfl, lt, p.1, p.2⟩, fun x H' y => ?_⟩
    obtain ⟨e, y⟩ := y
    subst e
    have hx := y xs q
    refine hs x (List.mem_of_getElem? hx) _ sH (fun o H4 => match o with
      | some (y, z) => ∃ kvs k, y = kV k ∧ H4 D = some (.dK kvs) ∧ kvs.length < sizeLine ∧ (Same H (upd H4 D (.dK (putK kvs k z))) ∧ (upd H4 D (.dK (putK kvs k z))) D = some (.dK (madeD ((xs.take (i + 1)).filterMap f))))
      | none => Same H H4 ∧ H4 D = some (.dK (madeD ((xs.take (i + 1)).filterMap f)))) fun H2 s2 => ?_
    have tk2 := take_fmG (f := f) hx
    cases e : f x with
    | none =>
      rw [e, Option.toList_none, List.append_nil] at tk2
      exact ⟨sH.trans s2, by rw [tk2]; exact s2 _ _ eD⟩
    | some p =>
      rw [e, Option.toList_some] at tk2
      refine ⟨_, p.1, rfl, s2 _ _ eD, room i, fun b o w => ?_, by rw [upd_same, tk2, madeD_snoc]⟩
      rw [upd_ne (ne_of_none w hD)]
      exact s2 _ _ (sH _ _ w)
  · left
    have e : i = xs.length := by omega
    subst e
    rw [List.take_length] at eD
    exact ⟨⟨xs, q, Nat.le_refl _⟩, k D H1 ⟨hD⟩ sH eD⟩
end
/-! the dicts of numbers -/
def dI (ks : List Nat) : List (Key × V) := ks.map fun d : Nat => (Sum.inl (d : Int), V.bl true)
theorem dI_val (ks : List Nat) (z : Nat) : valV (dI ks) (Sum.inl (z : Int)) = if z ∈ ks then some (V.bl true) else none := by
  induction ks with
  | nil => rfl
  | cons d ks ih =>
    by_cases e : d = z
    · subst e
      rw [if_pos List.mem_cons_self]
      exact valV_pos rfl
    · have : valV (dI (d :: ks)) (Sum.inl (z : Int)) = valV (dI ks) (Sum.inl (z : Int)) := valV_neg fun q => e (Int.ofNat.inj (Sum.inl.inj q))
      rw [this, ih]
      have : (z ∈ d :: ks) ↔ z ∈ ks := by
        rw [List.mem_cons]
        exact ⟨fun q => q.elim (fun k => absurd k.symm e) id, .inr⟩
      simp only [this]
theorem dI_keys (ks : List Nat) : Keys (dI ks) ks := fun z => by
  rw [dI_val]
  by_cases e : z ∈ ks <;> simp [e]
theorem dI_put (ks : List Nat) (z : Nat) : putK (dI ks) (Sum.inl (z : Int)) (V.bl true) = dI (if z ∈ ks then ks else ks ++ [z]) := by
  by_cases e : z ∈ ks
  · rw [if_pos e]
    unfold putK
    rw [valV_any, dI_val, if_pos e]
    show (dI ks).map _ = dI ks
    unfold dI
    rw [List.map_map]
    refine List.map_congr_left fun d _ => ?_
    show (if (Sum.inl (d : Int) : Key) = Sum.inl (z : Int) then _ else _) = _
    by_cases q : (Sum.inl (d : Int) : Key) = Sum.inl (z : Int)
    · rw [if_pos q]
    · rw [if_neg q]
  · rw [if_neg e, putK_new _ (by rw [dI_val, if_neg e])]
    unfold dI
    rw [List.map_append]
    rfl
def ddn (ds : List Nat) : List Nat := ds.foldl (fun m d => if d ∈ m then m else m ++ [d]) []
theorem ddn_snoc (ds : List Nat) (d : Nat) : ddn (ds ++ [d]) = if d ∈ ddn ds then ddn ds else ddn ds ++ [d] := by
  unfold ddn
  rw [List.foldl_append]
  rfl
theorem ddn_mem (ds : List Nat) (z : Nat) : z ∈ ddn ds ↔ z ∈ ds := by
  induction ds using snoc_ind with
  | h0 => exact Iff.rfl
  | hs ds d ih =>
    rw [ddn_snoc, List.mem_append, List.mem_singleton]
    by_cases e : d ∈ ddn ds
    · rw [if_pos e, ih]
      exact ⟨.inl, fun q => q.elim id fun k => k ▸ ih.mp (k ▸ e)⟩
    · rw [if_neg e, List.mem_append, List.mem_singleton, ih]
theorem madeD_I (ds : List Nat) : madeD (ds.map fun d : Nat => ((Sum.inl (d : Int) : Key), V.bl true)) = dI (ddn ds) := by
  induction ds using snoc_ind with
  | h0 => rfl
  | hs ds d ih =>
    rw [List.map_append, List.map_cons, List.map_nil, madeD_snoc, ih, dI_put, ddn_snoc]
theorem ddn_nd (ds : List Nat) : (ddn ds).Nodup := by
  induction ds using snoc_ind with
  | h0 => exact List.nodup_nil
  | hs ds d ih =>
    rw [ddn_snoc]
    by_cases e : d ∈ ddn ds
    · rw [if_pos e]; exact ih
    · rw [if_neg e]
      exact List.pairwise_append.mpr ⟨ih, List.pairwise_singleton _ _, fun a ha b hb q => e (by rw [← List.mem_singleton.mp hb, ← q]; exact ha)⟩
theorem ddn_same {ds : List Nat} (h : ds.Nodup) : ddn ds = ds := by
  induction ds using snoc_ind with
  | h0 => rfl
  | hs ds d ih =>
    obtain ⟨a, _, c⟩ := List.pairwise_append.mp h
    rw [ddn_snoc, ih a, if_neg]
    exact fun q => c d q d (List.mem_singleton.mpr rfl) rfl
end L3

set_option Elab.async false
set_option linter.all false
set_option maxRecDepth 100000
set_option maxHeartbeats 4000000
/-! set(l) of a list of ints as a set that can be walked; sorted(set(l)) of any number of ints. -/
namespace L3
open PySem PySem.Spec L2 PyProof.Rows
section
variable {P : Program} {w : World} {A : Around} {E : Value → Shared → Prop} {s : Shared}
abbrev void (w : World) : Obj :=
  { cls := .type "set", dict := none,
    data := .set #[] 0 (.fresh 0 0 (!w.params.followText "set-order")) }
abbrev hv (w : World) (s : Shared) : Heap := s.heap.push (void w)
def Good (w : World) (s : Shared) (ns : List Int) (x : Value) (t : Shared) : Prop :=
  x = .none ∧ ∃ g tk c, t = { s with heap := g, toks := tk } ∧
    SetR w g s.heap.objs.size (fun j => decide (j ∈ ns)) c ∧ c ≤ ns.length ∧
    ∀ b o, s.heap.get? b = some o → g.get? b = some o
theorem set_of_list {l : Addr} {its : Array Value} (ns : List Int) {Q : Value → Shared → Prop}
    (calm : A.handled = none) (pl : s.heap.IsList l its) (nums : IntsAre its.toList ns)
    (room : ns.length + 1 < scanBound)
    (k : ∀ (g : Heap) (tk c : Nat), SetR w g s.heap.objs.size (fun j => decide (j ∈ ns)) c →
      c ≤ ns.length → (∀ b o, s.heap.get? b = some o → g.get? b = some o) →
      Q (.ref s.heap.objs.size) { s with heap := g, toks := tk }) :
    wpAny (model P w) A (call (.type "set") [.ref l]) Q E s := by
  have many : its.size = ns.length := by
    rw [← Array.length_toList]
    exact IntsAre.length nums
  obtain ⟨c0, t0, mro⟩ := F.called_set.mro
  have made := F.called_set.made
  have under := F.called_set.sub
  apply wpAny_call
  apply codeAny_of_tree
  show wpAny _ _ (callAny (.type "set") _) _ _ _
  apply wpAny_pure
  refine ⟨Code.quiet_builtin _ (by decide +kernel), ?_⟩
  apply codeAny_builtin F.entry_type_call
  rw [Around.under_plain (weight_type_call_type "set" [.ref l] []) rfl]
  have nt := F.called_set.notType
  have cc := F.called_set.canCreate
  have tc := F.typeCall_set_1 (.ref l)
  repeat (any_goals (first | assumption | wp_step))
  refine codeAny_mono (code_set_led1 (.ref l) (E := E)
    (Q₁ := fun x t => x = .ref s.heap.objs.size ∧ t = { s with heap := hv w s }) ⟨rfl, rfl⟩) ?_
  intro r t hr
  match r, hr with
  | .error e, hr => exact hr
  | .ok (.ret x), hr =>
    obtain ⟨rfl, rfl⟩ := hr
    have here : (hv w s).get? s.heap.objs.size = some (void w) := Heap.get?_push_size _ rfl
    have ty : Shared.TypeIs { s with heap := hv w s } (.ref s.heap.objs.size) "set" :=
      ⟨_, here, rfl⟩
    have look := F.called_set.init.lookup
    have bnd := F.called_set.init.bind (.ref s.heap.objs.size)
    repeat (any_goals (first | assumption | wp_step))
    refine codeAny_mono (codeAny_call_builtin (R := wants (Good w s ns) E)
      F.called_set.init.plain F.entry_set_init (check_set_init_1 ty ?inner)) ?outer
    case outer =>
      intro r2 t2 h2
      match r2, h2 with
      | .error e, h2 => exact h2
      | .ok (.ret x), h2 =>
        obtain ⟨rfl, g, tk, c, rfl, a1, a2, a3⟩ := h2
        repeat (any_goals (first | assumption | wp_step))
        exact k _ _ _ a1 a2 a3
      | .ok .next, h2 => exact h2.elim
      | .ok .brk, h2 => exact h2.elim
      | .ok .cont, h2 => exact h2.elim
    case inner =>
      obtain ⟨⟨oc, od, odata, osl⟩, at_, k1, k2, k3⟩ := pl
      simp only at k1 k3
      subst k1
      subst k3
      have at2 : (hv w s).get? l = some
          { cls := .type "list", dict := od, data := .seq its k2, slots := osl } :=
        Heap.get?_push_of_some _ at_
      have sub1 := F.sub_list_set
      have sub2 := F.sub_list_frozenset
      have other : (Value.type "list" == Value.type "dict") = false := by decide
      have pl2 : (hv w s).IsList l its := ⟨_, at2, rfl, k2, rfl⟩
      unfold Builtin.«set.__init__» noKeywords Builtin.Frozenset.updateFrom
      generalize hp : pyIter = PI
      wp_walk
      subst hp
      refine wpAny_pyIter_list pl2 ?_
      apply wpAny_bind
      apply wpAny_runValue
      have old : l < s.heap.objs.size := Heap.lt_size at_
      have in3 : A.in1.in1.in1.handled = none := by simp [calm]
      have sz1 : (hv w s).objs.size = s.heap.objs.size + 1 := Heap.size_push ..
      have ne1 : l ≠ (hv w s).objs.size := by
        rw [sz1]
        exact Nat.ne_of_lt (Nat.lt_succ_of_lt old)
      have out1 : s.heap.objs.size ∉ [(hv w s).objs.size, l] := by
        rw [sz1]
        intro m
        rcases List.mem_cons.mp m with e | m
        · exact Nat.ne_of_lt (Nat.lt_succ_self _) e
        · exact Nat.ne_of_gt old (List.mem_singleton.mp m)
      have each : ∀ (i : Nat) (v : Value), its[i]? = some v →
          ∃ z t, ns[i]? = some z ∧ v = .int z t := fun i v e => by
        have lt : i < ns.length := many ▸ (Array.getElem?_eq_some_iff.mp e).1
        obtain ⟨t, q⟩ := IntsAre.int_at nums i v (by rw [Array.getElem?_toList]; exact e)
        refine ⟨ns[i], t, List.getElem?_eq_getElem lt, ?_⟩
        rw [q, List.getD_eq_getElem?_getD, List.getElem?_eq_getElem lt] <;> rfl
      refine set_update_ints (Walks.list in3 _ l ne1 its).toS s.heap.objs.size out1 ns many room
        each (its.size - 0) 0 _ (by omega) (Nat.zero_le _)
        ⟨⟨_, Heap.get?_push_size _ rfl, rfl, rfl⟩, pl2.push _⟩ ?first ?last
      case first => exact ⟨0, Nat.le_refl 0, setR_new_at (Heap.get?_push_of_some _ here)⟩
      case last =>
        rintro ⟨g, gens2, drawn2, tk, os2⟩ c mv hc hS
        obtain rfl : gens2 = s.gens := mv.gens
        obtain rfl : drawn2 = s.drawn := mv.drawn
        obtain rfl : os2 = s.os := mv.os
        show wpAny _ _ _ _ _ _
        apply wpAny_pure
        show wpAny _ _ (ret Value.none) _ _ _
        apply wpAny_pure
        refine ⟨rfl, g, tk, c, rfl, hS, many ▸ hc, fun b o e => ?_⟩
        have lt := Heap.lt_size e
        refine mv.heap b o ?_ (Heap.get?_push_of_some _ (Heap.get?_push_of_some _ e))
        intro m
        rcases List.mem_cons.mp m with q | m
        · exact Nat.ne_of_lt lt q
        · have q := (List.mem_singleton.mp m).trans sz1
          exact Nat.ne_of_lt (Nat.lt_succ_of_lt lt) q
  | .ok .next, hr => exact hr.elim
  | .ok .brk, hr => exact hr.elim
  | .ok .cont, hr => exact hr.elim
/-- sorted(x) of a set of ints, however many -/
theorem sorted_big {a : Addr} {S : Int → Bool} {n : Nat} {Q : Value → Shared → Prop}
    (R : SetR w s.heap a S n) (calm : A.handled = none)
    (k : ∀ t p (out : Array Value) (c : Nat) (ns : List Int),
      (∀ b o, s.heap.get? b = some o → t.heap.get? b = some o) → t.gens = s.gens → t.os = s.os →
      s.heap.objs.size ≤ p → t.heap.get? p = some (seqObj "list" out c) → IntsAre out.toList ns →
      ns.Pairwise (· < ·) → (∀ z, z ∈ ns ↔ S z = true) → ns.length ≤ scanBound → Q (.ref p) t) :
    wpAny (model P w) A (call (.builtin "sorted") [.ref a]) Q E s := by
  obtain ⟨ob, es, ep, tab, at_, exact_, data_, good, nodup, mem, short, fits, count, rises, led⟩ := R
  apply Calls.call_function_entry kind_sorted plain_sorted entry_sorted (args_sorted1 _)
  unfold Builtin.«sorted»
  apply wpAny_bind (m := checkCount "sorted" 1 1 _)
  apply wpAny_pure
  apply wpAny_bind
  refine collect_set (A := A.in1) calm ⟨ob, at_, exact_.1, data_⟩ fits short rises led ?_
  intro s1 vs keep more gens os pm
  have len : vs.length = es.size := by
    rw [pm.length_eq, List.length_map, Array.length_toList]
  have nums : IntsAre vs (vs.map Builtin.Re.reRawOf) := ints_of vs fun v m => by
    obtain ⟨e, me, q⟩ := List.mem_map.mp (pm.mem_iff.mp m)
    obtain ⟨z, t, h1, _⟩ := good e me
    exact ⟨z, t, q ▸ h1⟩
  have perm : (vs.map Builtin.Re.reRawOf).Perm (es.toList.map keyOf) := by
    have q := pm.map Builtin.Re.reRawOf
    rwa [List.map_map] at q
  have room : vs.length ≤ sizeLine := by
    rw [len]
    exact Nat.le_trans (Nat.le_of_lt short) (by decide)
  apply wpAny_bind
  refine wpAny_newList ?_ room
  have new : (s1.heap.push (seqObj "list" vs.toArray 0)).get? s1.heap.objs.size
      = some (seqObj "list" vs.toArray 0) := Heap.get?_push_size _ rfl
  apply wpAny_bind
  apply wpAny_holding
  refine wpAny_call_entry slot_list_sort ⟨_, new, rfl⟩ entry_list_sort ?_ (args_list_sort _)
  refine SrtO.list_sort_ord SrtO.swo_int new room (fun two => SrtO.ints_sortable nums two) ?_
  intro out up stab
  refine ⟨_, rfl, ?_⟩
  obtain ⟨k1, k2, k3⟩ := SrtO.ints_out nums up stab
  obtain ⟨c, hc⟩ := sortedHeap_at (vs := vs) (out := out.toArray) new
  have all : (out.map SrtO.iv).Perm (es.toList.map keyOf) := k2.trans perm
  apply wpAny_pure
  refine ⟨_, rfl, k _ s1.heap.objs.size out.toArray c _ (fun b o e => ?_) gens os more hc
    (by simpa using k1) (lt_of_le_nodup _ k3 (all.nodup_iff.mpr nodup)) (fun z => ?_) ?_⟩
  · have q := keep b o e
    have lt := Heap.lt_size q
    show (sortedHeap (s1.heap.push (seqObj "list" vs.toArray 0)) s1.heap.objs.size vs out.toArray).get? b = some o
    rw [sortedHeap_old (Nat.ne_of_lt lt) (by rw [size_push']; exact Nat.lt_succ_of_lt lt)]
    exact Heap.get?_push_of_some _ q
  · rw [all.mem_iff, ← mem z]
  · rw [all.length_eq, List.length_map, Array.length_toList]
    exact Nat.le_of_lt short
end
section
variable {K : PySem.W.Frag} {H : Hp} {Q : VK} {σ : L2.St} {a : Addr} {to : TE}
def SsR (K : PySem.W.Frag) (x : V) (H : Hp) (Q : VK) : Prop :=
  ∃ (l : Addr) (ns : List Int), x = .ref l ∧ SqL K H l (ns.map V.int) ∧ ns.length ≤ 4000 ∧
  ∀ (out : List Int) (p : Addr), out.Pairwise (· < ·) → (∀ z, z ∈ out ↔ z ∈ ns) → H p = none →
  Q (.ref p) (upd H p (.lst (out.map V.int)))
def tSortSetG (K : PySem.W.Frag) (to : TE) : TE := fun σ H Q => to σ H fun x H1 => SsR K x H1 Q
theorem g_ss (h : to σ H fun x H1 => SsR K x H1 Q) : tSortSetG K to σ H Q := h
end
/-- sorted(set(l)) of a list of ints -/
theorem pe_sortSetG {X : Cx} {K : PySem.W.Frag} {o : Expr} {to : TE} {p1 p2 p3 p4 : Pos} (hK : X.K = K) (g1 : Gl X "sorted") (m1 : X.mg "sorted" = none) (g2 : Gl X "set") (m2 : X.mg "set" = none) (ho : PE X o to) (calm : X.calm = true := by rfl)
    (one : starEach [o] X.env = (false, eval o X.env) :: starEach [] X.env := by rfl) :
    PE X (.Call (.Name "sorted" p1) [.Call (.Name "set" p2) [o] [] p3] [] p4) (tSortSetG K to) := by
  subst hK
  constructor
  intro pins s0 σ H0 Q0 J hw
  apply Call_ (ld_blt J g1 m1 boot_sorted _)
  apply callWith_builtin1 (args_cons _ rfl) rfl rfl
  apply Call_ (ld_blt J g2 m2 boot_set _)
  apply callWith_type1 _ one rfl
  apply args_cons _ one
  apply thn (ho.run pins s0 σ H0 _ J hw)
  rintro v s1 ⟨x, H1, J1, rx, l, ns, ex, sq, short, q⟩
  subst ex
  cases rx
  apply args_nil
  obtain ⟨us, vs, plain, room⟩ := J1.list sq
  apply set_of_list ns (J1.ok.hd calm) plain.isList (by simpa using RZ.intsAre_vals vs) (by unfold scanBound; omega)
  intro h2 tk c R hc kept
  apply args_nil
  have J2 : Inv X pins σ H1 { s1 with heap := h2, toks := tk } := J1.kept kept
  have R2 : SetR X.w ({ s1 with heap := h2, toks := tk } : Shared).heap s1.heap.objs.size (fun j => decide (j ∈ ns)) c := R
  clear R kept
  generalize ({ s1 with heap := h2, toks := tk } : Shared) = s2 at J2 R2 ⊢
  apply sorted_big R2 (J2.ok.hd calm)
  intro t p out n ms keep gens os more at_ nums up mem few
  have fresh : H1 p = none := J2.hok.fresh more
  have room2 : (ms.map V.int).length ≤ sizeLine := by
    rw [List.length_map]
    exact Nat.le_trans few (by decide)
  have J3 : Inv X pins σ (upd H1 p (.lst (ms.map V.int)))
      { s2 with heap := t.heap, gens := t.gens, drawn := t.drawn, toks := t.toks } :=
    J2.call (ch := []) (Un.laid keep more fresh)
      (J2.hok.laid keep more ⟨room2, out.toList, n, vals_of_ints nums, at_⟩)
      (by rw [gens]; exact J2.bare) (fun _ z => nomatch z)
  have e : t = { s2 with heap := t.heap, gens := t.gens, drawn := t.drawn, toks := t.toks } := by
    cases t
    cases s2
    cases os
    rfl
  rw [e]
  exact ⟨.ref p, _, J3, rfl, q ms p up (fun z => by rw [mem z]; exact decide_eq_true_iff) fresh⟩
end L3

set_option Elab.async false
set_option linter.all false
set_option maxRecDepth 100000
set_option maxHeartbeats 2000000
/-! a name that gets a dict comprehension. -/
namespace L3
open PySem PySem.Spec L2 PyProof.Rows
theorem sw_dict {kx vx : Expr} {gs : List Comprehension} {scope : Scope} {pos py : Pos} {y : Str} {l : Nat} {env : Env}
    (fn : env.scope.kind = .function) (loc : env.scope.names.lookup y = some .local)
    (line : (py.line == pos.line) = true)
    (free : (scope.names.any fun (n, k) => n == y && (k == .local || k == .cell)) = false) :
    swapsWith (.DictComp kx vx gs scope pos) (some (.Name y py)) l env = pure true := by
  have a1 : env.kindOf y = some .local := loc
  have a2 : env.blockKind = .function := by
    unfold Env.blockKind
    rw [fn]
    rfl
  unfold swapsWith
  simp only [a2, a1, free, Expr.pos, line]
  rfl
section
variable {X : Cx}
theorem ps_setDc {i : Nat} {y : Str} {py pos spos : Pos} {kx vx tg iter : Expr} {ifs : List Expr} {scope : Scope} {own : List (Str × Nat)}
    {wi : TI} {g : TG} {tt : TT} {tk tv : TE} (hc : X.calm = true) (hN : X.N.Nodup) (hy : X.N[i]? = some y)
    (loc : X.env.scope.names.lookup y = some .local)
    (sw : swapsWith (.DictComp kx vx [⟨tg, iter, ifs, 0⟩] scope pos) (some (.Name y py)) spos.line X.env = pure true)
    (hi : PI X tg iter wi) (ok : BlkOk X.N X.env.scope scope own)
    (hg : ∀ (s : Shared) (H : Hp) (C : Addr) (cl : List (Str × Addr)) (fp : List Addr),
      PG (X.blk s H scope (compEnvC scope cl C X.env) fp) tg g)
    (ht : ∀ (s : Shared) (H : Hp) (C : Addr) (cl : List (Str × Addr)) (fp : List Addr),
      PTs (X.blk s H scope (compEnvC scope cl C X.env) fp) ifs tt)
    (hk : ∀ (s : Shared) (H : Hp) (C : Addr) (cl : List (Str × Addr)) (fp : List Addr),
      PE (X.blk s H scope (compEnvC scope cl C X.env) fp) kx tk)
    (hv : ∀ (s : Shared) (H : Hp) (C : Addr) (cl : List (Str × Addr)) (fp : List Addr),
      PE (X.blk s H scope (compEnvC scope cl C X.env) fp) vx tv)
    (hs : ∀ x, foldedSetIterable iter X.env x = pure x := by intro _; rfl) :
    PS X (.Assign [.Name y py] (.DictComp kx vx [⟨tg, iter, ifs, 0⟩] scope pos) spos)
      (tAsg (tDc wi g tt tk tv (own.map (·.2))) (gName i)) := by
  constructor
  intro pins s σ H D I h
  rw [exec_Assign_Name_used _ _ _ _ sw]
  apply wpAny_bind
  apply wpAny_standAt
  apply wpAny_bind
  have h2 : tDc wi g tt tk tv (own.map (·.2)) σ H (fun x H1 => gName i x σ H1 D.nx) := h
  show wpAny _ X.A (do
    let _ ← comprehension (.DictComp kx vx [⟨tg, iter, ifs, 0⟩] scope pos) scope X.env
      (firstIterPos [⟨tg, iter, ifs, 0⟩] pos) newDict false (eval iter X.env)
      (some (assign (.Name y py) X.env))) _ _ s
  apply wpAny_bind
  refine thn (dc_core (Qf := fun _ t => SP X pins D .next t) hc hN I hi ok hg ht hk hv hs h2 ?_)
    fun _ t q => wpAny_pure (wpAny_pure q)
  intro L C t m H2 J q ns fp
  show wpAny _ _ (assign (.Name y py) X.env (.ref L)) _ _ _
  apply wpAny_assign_Name
  refine store_ok2 (v := V.ref L) J hN hy (.inl loc) rfl ?_ (.inr loc)
  rintro t2 J2 ⟨a, sb, ha⟩
  obtain ⟨f0, f1, f2, f3, f4, f5⟩ := fp
  have apart : C ≠ a := by
    rcases ha with z | z
    · exact z ▸ f1
    · exact fun e => f4 y a z e.symm
  refine ⟨m, ns.sameBut sb apart, fun h3 sb3 => ?_⟩
  exact ⟨_, H2, J2.turned (t' := t2.toks) (fun b o hb e => (sb3.2 b hb).trans e) f0 f1 f3 f4 f5, q⟩
end
theorem asc_nat {xs : List Nat} {out : List Int} (up : out.Pairwise (· < ·)) (mem : ∀ z, z ∈ out ↔ z ∈ xs.map fun d : Nat => (d : Int)) : ∃ es : List Nat, out = es.map (fun d : Nat => (d : Int)) ∧ es.Pairwise (· < ·) ∧ ∀ d, d ∈ es ↔ d ∈ xs := by
  have pos : ∀ x ∈ out, ∃ d ∈ xs, ((d : Nat) : Int) = x := fun x m => List.mem_map.mp ((mem x).mp m)
  have e1 : out = (out.map Int.toNat).map (fun d : Nat => (d : Int)) := by
    rw [List.map_map]
    have : out.map ((fun d : Nat => (d : Int)) ∘ Int.toNat) = out.map id := List.map_congr_left fun x m => by
      obtain ⟨d, _, rfl⟩ := pos x m
      rfl
    rw [this, List.map_id]
  refine ⟨out.map Int.toNat, e1, List.pairwise_map.mpr (up.imp_of_mem fun {a b} ma mb q => ?_), fun d => ?_⟩
  · obtain ⟨x, _, rfl⟩ := pos a ma
    obtain ⟨y, _, rfl⟩ := pos b mb
    show x < y
    omega
  · rw [List.mem_map]
    constructor
    · rintro ⟨x, m, rfl⟩
      obtain ⟨y, hy, rfl⟩ := pos x m
      exact hy
    · intro m
      exact ⟨(d : Int), (mem _).mpr (List.mem_map.mpr ⟨d, m, rfl⟩), rfl⟩
end L3

set_option Elab.async false
set_option linter.all false
set_option maxRecDepth 100000
set_option maxHeartbeats 2000000
/-! a number in a list of numbers. -/
namespace L3
open PySem L2 PyProof.Rows
theorem inV_nats (z : Int) : ∀ ds : List Nat, inV (.int z) (ds.map fun d : Nat => V.int (d : Int)) = decide (∃ d ∈ ds, z = ((d : Nat) : Int))
  | [] => by
    have : ¬ ∃ d ∈ ([] : List Nat), z = ((d : Nat) : Int) := fun ⟨d, m, _⟩ => List.not_mem_nil m
    rw [decide_eq_false this]
    rfl
  | d :: ds => by
    show (eqV (.int (d : Int)) (.int z) || inV (.int z) (ds.map fun d : Nat => V.int (d : Int))) = _
    rw [inV_nats z ds]
    have e : eqV (.int (d : Int)) (.int z) = decide (z = (d : Int)) := by
      show ((d : Int) == z) = _
      by_cases q : z = (d : Int)
      · subst q; simp
      · rw [decide_eq_false q]
        exact beq_false_of_ne fun k => q k.symm
    rw [e, Bool.eq_iff_iff, Bool.or_eq_true, decide_eq_true_iff, decide_eq_true_iff, decide_eq_true_iff]
    constructor
    · rintro (q | ⟨x, m, q⟩)
      · exact ⟨d, List.mem_cons_self, q⟩
      · exact ⟨x, List.mem_cons_of_mem _ m, q⟩
    · rintro ⟨x, m, q⟩
      rcases List.mem_cons.mp m with rfl | m
      · exact .inl q
      · exact .inr ⟨x, m, q⟩
theorem o_inN {K : PySem.W.Frag} {H : Hp} {Q : VK} {a : Addr} {z : Nat} {ds : List Nat} (h1 : H a = some (.lst (ds.map fun d : Nat => V.int (d : Int)))) (k : Q (.bl (decide (z ∈ ds))) H) : rIn K false (.int (z : Int)) (.ref a) H Q := by
  refine ⟨a, _, rfl, .inl (SqL.of h1), rfl, ?_, ?_⟩
  · rw [List.all_eq_true]
    intro v hv
    obtain ⟨w, _, rfl⟩ := List.mem_map.mp hv
    rfl
  · show Q (.bl (inV (.int (z : Int)) (ds.map fun d : Nat => V.int (d : Int)))) H
    rw [inV_nats]
    have e : decide (∃ d ∈ ds, ((z : Nat) : Int) = ((d : Nat) : Int)) = decide (z ∈ ds) := decide_eq_decide.mpr ⟨fun ⟨d, m, q⟩ => (Int.ofNat.inj q) ▸ m, fun m => ⟨z, m, rfl⟩⟩
    rw [e]
    exact k
end L3

set_option Elab.async false
set_option linter.all false
set_option maxRecDepth 100000
set_option maxHeartbeats 4000000
/-! comprehensions over lists that keep a state; extend; sorted(dict) of any number of ints. -/
namespace L3
open PySem L2 PyProof.Rows
section
variable {K : PySem.W.Frag} {H : Hp} {Q : VK} {g : TG} {tt : TT} {te : TE} {vs : List Nat} {σ : L2.St} {a : Addr} {xs : List V}
theorem lcl_acc (Pv : Nat → List V → Hp → Prop) (h1 : SqL K H a xs) (hz : xs.length ≤ 100000) (h0 : Pv 0 [] H)
    (sq : ∀ i acc H1, Pv i acc H1 → SqL K H1 a xs)
    (fr : ∀ D, H D = none → ∀ i acc H1 H2, SB D H1 H2 → Pv i acc H1 → Pv i acc H2)
    (hs : ∀ (i : Nat) x acc H1, xs[i]? = some x → acc.length ≤ i → Pv i acc H1 → ∀ Z : Option V → Hp → Prop,
      (∀ y H4, (∀ a u, H a = none → H1 a = some u → H4 a = some u) → Pv (i + 1) (acc ++ [y]) H4 → Z (some y) H4) →
      (∀ H4, (∀ a u, H a = none → H1 a = some u → H4 a = some u) → Pv (i + 1) acc H4 → Z none H4) → LcT g tt te vs σ x H1 Z)
    (k : ∀ D acc H', Fr H D → acc.length ≤ xs.length → Pv xs.length acc H' → H' D = some (.lst acc) → Q (.ref D) H') : LcL K g tt te vs σ (.ref a) H Q := by
  refine ⟨a, rfl, ⟨xs, h1⟩, fun D hD => lc_list (xs := xs) (fun i H' => ∃ acc, acc.length ≤ i ∧ i ≤ xs.length ∧ Pv i acc H' ∧ H' D = some (.lst acc)) ⟨[], Nat.le_refl _, Nat.zero_le _, fr D hD _ _ _ _ sb_upd h0, upd_same⟩ (fun i H' _ ⟨acc, _, _, p, _⟩ => sq _ _ _ p) ?_ ?_⟩
  · rintro i x H1 hx ⟨acc, al, il, pv, eD⟩
    have hlt : i < xs.length := (List.getElem?_eq_some_iff.mp hx).1
    refine hs i x acc H1 hx al pv (fun o H4 => match o with
      | some y => ∃ ac, H4 D = some (.lst ac) ∧ ac.length < sizeLine ∧ ∃ acc', acc'.length ≤ i + 1 ∧ i + 1 ≤ xs.length ∧ Pv (i + 1) acc' (upd H4 D (.lst (ac ++ [y]))) ∧ (upd H4 D (.lst (ac ++ [y]))) D = some (.lst acc')
      | none => ∃ acc', acc'.length ≤ i + 1 ∧ i + 1 ≤ xs.length ∧ Pv (i + 1) acc' H4 ∧ H4 D = some (.lst acc')) (fun y H4 keep pv4 => ?_) (fun H4 keep pv4 => ?_)
    · refine ⟨acc, keep D _ hD eD, ?_, acc ++ [y], by rw [List.length_append]; simp only [List.length_singleton]; omega, hlt, fr D hD _ _ _ _ sb_upd pv4, upd_same⟩
      exact Nat.lt_of_le_of_lt (by omega : _ ≤ 100000) (by decide)
    · exact ⟨acc, by omega, hlt, pv4, keep D _ hD eD⟩
  · rintro H1 ⟨acc, al, _, pv, eD⟩
    exact k D acc H1 ⟨hD⟩ al pv eD
theorem lc_map (ys : List V) (h1 : SqL K H a xs) (hl : ys.length = xs.length) (hz : xs.length ≤ 100000)
    (hs : ∀ (i : Nat) x y, xs[i]? = some x → ys[i]? = some y → ∀ H1, Same H H1 → ∀ R : Option V → Hp → Prop, (∀ H2, Same H1 H2 → R (some y) H2) → LcT g tt te vs σ x H1 R)
    (k : ∀ D H', Fr H D → Same H H' → H' D = some (.lst ys) → Q (.ref D) H') : LcL K g tt te vs σ (.ref a) H Q := by
  refine lcl_acc (fun i acc H1 => acc = ys.take i ∧ Same H H1) h1 hz ⟨rfl, Same.refl _⟩ (fun i acc H1 q => q.2.seq h1) ?_ ?_ ?_
  · rintro D hD i acc H1 H2 s2 ⟨e, s1⟩
    exact ⟨e, fun b o q => s2 _ _ (ne_of_none q hD) (s1 _ _ q)⟩
  · rintro i x acc H1 hx al ⟨rfl, s1⟩ Z kZ _
    have hlt : i < xs.length := (List.getElem?_eq_some_iff.mp hx).1
    obtain ⟨y, hy⟩ : ∃ y, ys[i]? = some y := ⟨ys[i]'(by omega), by simp [hl, hlt]⟩
    refine hs i x y hx hy H1 s1 Z fun H2 s2 => kZ y H2 (fun b o _ q => s2 _ _ q) ⟨by rw [List.take_succ, hy]; rfl, s1.trans s2⟩
  · rintro D acc H' fD al ⟨e, s1⟩ hD
    rw [← hl, List.take_length] at e
    subst e
    exact k D H' fD s1 hD
theorem ap_extend {l b : Addr} {xs ys : List V} (h1 : H l = some (.lst xs)) (h2 : H b = some (.lst ys)) (hz : xs.length + ys.length ≤ 100000) (h : ∀ H', SB l H H' → H' l = some (.lst (xs ++ ys)) → Q .non H') : rExtend (.ref l) [.ref b] H Q :=
  ⟨l, b, xs, ys, rfl, rfl, h1, h2, Nat.le_trans hz (by decide), h _ sb_upd upd_same⟩
end
section
variable {H : Hp} {Q : VK} {σ : L2.St} {a : Addr} {v : V} {z : Int} {kvs : List (Key × V)}
def DgR (x y : V) (H : Hp) (Q : VK) : Prop := ∃ a v, x = .ref a ∧ DGet H a y (some v) ∧ Q v H
theorem g_dget {td ty : TE} (h : td σ H fun x H1 => ty σ H1 fun y H2 => DgR x y H2 Q) : tDGet td ty σ H Q := h
theorem dg_i (h1 : H a = some (.dK kvs)) (e : valV kvs (Sum.inl z) = some v) (k : Q v H) : DgR (.ref a) (.int z) H Q := ⟨a, v, rfl, by rw [← e]; exact DGet.k h1 (k := Sum.inl z), k⟩
theorem g_dnew (k : ∀ p H', Fr H p → Same H H' → H' p = some (.dK []) → Q (.ref p) H') : tDNewK σ H Q := fun p hp => k p _ ⟨hp⟩ (same_upd hp) upd_same
theorem s_put {Q : Hp → Prop} (h1 : H a = some (.dK kvs)) (hl : kvs.length ≤ 60000) (k : ∀ H', SB a H H' → H' a = some (.dK (putK kvs (Sum.inl z) v)) → Q H') : rSetD (.ref a) (.int z) v H Q := ⟨a, _, rfl, DPut.k (k := Sum.inl z) h1 (Nat.lt_of_le_of_lt hl (by decide)), k _ sb_upd upd_same⟩
theorem o_ninD {cs : List Nat} {z : Nat} (h1 : H a = some (.dK kvs)) (h2 : Keys kvs cs) (k : Q (.bl (!decide (z ∈ cs))) H) : rNinD (.int (z : Int)) (.ref a) H Q := ⟨a, _, rfl, DGet.k h1 (k := Sum.inl (z : Int)), by rw [h2 z]; exact k⟩
theorem Keys.put {cs : List Nat} (h : Keys kvs cs) (z : Nat) (v : V) : Keys (putK kvs (Sum.inl (z : Int)) v) (if z ∈ cs then cs else cs ++ [z]) := fun y => by
  rw [valV_put]
  by_cases e : (Sum.inl (y : Int) : Key) = Sum.inl (z : Int)
  · have e2 : y = z := Int.ofNat.inj (Sum.inl.inj e)
    subst e2
    rw [if_pos rfl]
    by_cases m : y ∈ cs
    · rw [if_pos m, decide_eq_true m]; rfl
    · rw [if_neg m, decide_eq_true (List.mem_append_right _ (List.mem_singleton.mpr rfl))]; rfl
  · rw [if_neg e, h y]
    by_cases m : z ∈ cs
    · rw [if_pos m]
    · rw [if_neg m]
      refine decide_eq_decide.mpr ?_
      rw [List.mem_append, List.mem_singleton]
      exact ⟨.inl, fun q => q.elim id fun k => absurd (by rw [k]) e⟩
theorem o_ninN {K : PySem.W.Frag} {z : Nat} {ds : List Nat} (h1 : H a = some (.lst (ds.map fun d : Nat => V.int (d : Int)))) (k : Q (.bl (!decide (z ∈ ds))) H) : rIn K true (.int (z : Int)) (.ref a) H Q := by
  refine ⟨a, _, rfl, .inl (SqL.of h1), rfl, ?_, ?_⟩
  · rw [List.all_eq_true]
    intro v hv
    obtain ⟨w, _, rfl⟩ := List.mem_map.mp hv
    rfl
  · show Q (.bl (!inV (.int (z : Int)) (ds.map fun d : Nat => V.int (d : Int)))) H
    rw [inV_nats]
    have e : decide (∃ d ∈ ds, ((z : Nat) : Int) = ((d : Nat) : Int)) = decide (z ∈ ds) := decide_eq_decide.mpr ⟨fun ⟨d, m, q⟩ => (Int.ofNat.inj q) ▸ m, fun m => ⟨z, m, rfl⟩⟩
    rw [e]
    exact k
theorem Keys.nil : Keys [] [] := fun y => rfl
end
section
open PySem.Spec
variable {X : Cx}
/-- sorted(d) of a dict whose keys are ints, however many -/
theorem call_sortedDG {K : PySem.W.Frag} (hK : X.K = K) (hcalm : X.calm = true) : CallR X (.builtin "sorted") (fun xs H Q => ∃ (a : Addr) (kvs : List (Key × V)) (ks : List Int), xs = [.ref a] ∧ Rd H a (.dK kvs) ∧ kvs.map (·.1) = ks.map Sum.inl ∧ ks.length ≤ 50000 ∧
    ∀ (ys : List Int) (p : Addr), ys.Perm ks → ys.Pairwise (· ≤ ·) → H p = none → Q (.ref p) (upd H p (.lst (ys.map V.int)))) := by
  subst hK
  intro pins s σ H xs us Q I r q
  obtain ⟨a, kvs, ks, ex, hd, hks, h64, q⟩ := q
  subst ex
  obtain ⟨u, eu, rx⟩ := vals1 r
  subst eu
  cases rx
  obtain ⟨z, lo, vs, rel, dd⟩ := dk_rd I.hok hd
  obtain ⟨ep, hat⟩ := dd.dictAt
  have hkeys : vs.map (·.1) = ks.map Sum.inl := rel.keys.symm.trans hks
  have hl : vs.length = ks.length := by
    have e := congrArg List.length hkeys
    rw [List.length_map, List.length_map] at e
    exact e
  have h16 : vs.length ≤ sizeLine := by rw [hl, sizeLine_eq]; omega
  refine Calls.call_function_entry PyProof.Rows.kind_sorted PyProof.Rows.plain_sorted PyProof.Rows.entry_sorted (PyProof.Rows.args_sorted1 _) ?_
  unfold Builtin.«sorted»
  refine wpAny_bind (m := checkCount "sorted" 1 1 _) (wpAny_pure ?_)
  refine wpAny_bind (PySem.W.kdu_collect (A := X.A.in1) (PySem.W.kdl_dict (knd := mixKind X.prog X.w) (kvs := vs) (ep := ep) lo) (I.ok.hd hcalm) hat h16 fun h' tk acc hk hacc => ?_)
  have hal : acc.toList.length = ks.length := by rw [Array.length_toList, hacc.1, hl]
  have hS : IntsAre acc.toList ks := ints_each hal fun j v e => by
    obtain ⟨k, x, e1, e2⟩ := hacc.2 j v (by rw [← Array.getElem?_toList]; exact e)
    have e3 : (vs.map (·.1))[j]? = some k := by rw [List.getElem?_map, e1]; rfl
    rw [hkeys, List.getElem?_map] at e3
    cases e4 : ks[j]? with
    | none => rw [e4] at e3; cases e3
    | some y =>
      rw [e4] at e3
      have e5 : Sum.inl y = k := Option.some.inj e3
      subst e5
      rcases keyIs_shape (show keyIs (Sum.inl y) v = true from e2) with ⟨i, t, ek, ev⟩ | ⟨z, t, ek, ev⟩
      · cases ek
        exact ⟨y, t, rfl, ev⟩
      · cases ek
  have I1 : Inv X pins σ H { s with heap := h', toks := tk } := I.kept hk
  have room : acc.toList.length ≤ sizeLine := by rw [hal, sizeLine_eq]; omega
  refine wpAny_bind (wpAny_newList ?_ room)
  have hoL : (h'.push (seqObj "list" acc.toList.toArray 0)).get? h'.objs.size = some (seqObj "list" acc.toList.toArray 0) := Heap.get?_push_size _ rfl
  show wpAny _ _ _ _ _ { s with heap := h'.push (seqObj "list" acc.toList.toArray 0), toks := tk }
  refine wpAny_bind (wpAny_holding (wpAny_call_entry PyProof.Rows.slot_list_sort ⟨_, hoL, rfl⟩ PyProof.Rows.entry_list_sort
    (SrtO.list_sort_ord (s := { s with heap := h'.push (seqObj "list" acc.toList.toArray 0), toks := tk }) SrtO.swo_int hoL room (fun two => SrtO.ints_sortable hS two) fun out up stab => ⟨_, rfl, ?_⟩) (PyProof.Rows.args_list_sort _)))
  obtain ⟨g1, g2, g3⟩ := SrtO.ints_out hS up stab
  obtain ⟨e', he'⟩ := PyProof.Rows.sortedHeap_at (vs := acc.toList) (out := out.toArray) hoL
  have hlen : ((out.map SrtO.iv).map V.int).length ≤ sizeLine := by
    rw [List.length_map, g2.length_eq, ← hal]
    exact room
  refine wpAny_pure ⟨_, rfl, .ref h'.objs.size, upd H h'.objs.size (.lst ((out.map SrtO.iv).map V.int)), I1.laid (t' := tk) (fun b u e => ?_) (Nat.le_refl _)
    (show ObjOk X.prog X.w _ _ _ (.lst ((out.map SrtO.iv).map V.int)) from ⟨hlen, out, e', vals_of_ints g1, by simpa using he'⟩), rfl, q _ _ g2 g3 (I1.hok.fresh (Nat.le_refl _))⟩
  have hb : b < h'.objs.size := Heap.lt_size e
  rw [PyProof.Rows.sortedHeap_old (Nat.ne_of_lt hb) (by rw [size_push']; exact Nat.lt_succ_of_lt hb)]
  exact Heap.get?_push_of_some _ e
end
end L3

set_option Elab.async false
set_option linter.all false
set_option maxRecDepth 100000
set_option maxHeartbeats 2000000
/-! which numbers tell a set of sizes; primes with powers. -/
namespace L3
open PySem L2 PyProof.Rows
/-- what a set is told by: whether a number is in it hangs on its greatest common divisor with m alone -/
def Tells (m : Nat) (S : Nat → Prop) : Prop := ∀ x y, Nat.gcd x m = Nat.gcd y m → (S x ↔ S y)
theorem gcd_gcd_dvd {x m k : Nat} (h : m ∣ k) : Nat.gcd (Nat.gcd x k) m = Nat.gcd x m := by
  rw [Nat.gcd_assoc, Nat.gcd_eq_right h]
theorem Tells.up {m k : Nat} {S : Nat → Prop} (h : Tells m S) (d : m ∣ k) : Tells k S := fun x y e => h x y (by rw [← gcd_gcd_dvd (x := x) d, e, gcd_gcd_dvd d])
theorem Tells.self (n : Nat) (ds : Nat → Prop) : Tells n fun x => ds (Nat.gcd x n) := fun x y e => by
  show ds _ ↔ ds _
  rw [e]
theorem Tells.gcd {m k : Nat} {S : Nat → Prop} (m0 : 0 < m) (k0 : 0 < k) (h1 : Tells m S) (h2 : Tells k S) : Tells (Nat.gcd m k) S := by
  have key : ∀ x y, Nat.gcd x (Nat.gcd m k) = Nat.gcd y (Nat.gcd m k) → ∃ z, Nat.gcd z m = Nat.gcd x m ∧ Nat.gcd z k = Nat.gcd y k := by
    -- the part for one side
    have half : ∀ A B m : Nat, 0 < A → 0 < B → A ∣ m → Nat.gcd B m ∣ A → Nat.gcd (Nat.lcm A B) m = A := by
      intro A B m a0 b0 am bA
      have hh : Nat.gcd A B = Nat.gcd B m := Nat.dvd_antisymm (Nat.dvd_gcd (Nat.gcd_dvd_right _ _) (Nat.dvd_trans (Nat.gcd_dvd_left _ _) am)) (Nat.dvd_gcd bA (Nat.gcd_dvd_left _ _))
      obtain ⟨h, hh2⟩ : ∃ h, h = Nat.gcd A B := ⟨_, rfl⟩
      have h0 : 0 < h := by rw [hh2]; exact Nat.gcd_pos_of_pos_left _ a0
      obtain ⟨B', hB⟩ : h ∣ B := hh2 ▸ Nat.gcd_dvd_right A B
      obtain ⟨A', hA⟩ : h ∣ A := hh2 ▸ Nat.gcd_dvd_left A B
      obtain ⟨m', hm⟩ : h ∣ m := Nat.dvd_trans (hh2 ▸ Nat.gcd_dvd_left A B) am
      have cop : Nat.gcd B' m' = 1 := by
        have e : Nat.gcd (h * B') (h * m') = h := by rw [← hB, ← hm, ← hh, ← hh2]
        rw [Nat.gcd_mul_left] at e
        exact Nat.eq_of_mul_eq_mul_left h0 (by rw [e, Nat.mul_one])
      have el : Nat.lcm A B = h * (A' * B') := by
        refine Nat.eq_of_mul_eq_mul_left h0 ?_
        have := Nat.gcd_mul_lcm A B
        rw [← hh2] at this
        rw [this, hA, hB]
        grind
      have am' : A' ∣ m' := by
        rw [hA, hm] at am
        exact Nat.dvd_of_mul_dvd_mul_left h0 am
      rw [el, hm, Nat.gcd_mul_left, Nat.Coprime.gcd_mul_right_cancel _ cop, Nat.gcd_eq_left am', ← hA]
    intro x y e
    have x0 : 0 < Nat.gcd x m := Nat.gcd_pos_of_pos_right _ m0
    have y0 : 0 < Nat.gcd y k := Nat.gcd_pos_of_pos_right _ k0
    refine ⟨Nat.lcm (Nat.gcd x m) (Nat.gcd y k), half _ _ _ x0 y0 (Nat.gcd_dvd_right _ _) ?_, ?_⟩
    · have e1 : Nat.gcd (Nat.gcd y k) m = Nat.gcd x (Nat.gcd m k) := by rw [e, Nat.gcd_assoc, Nat.gcd_comm k m]
      rw [e1, ← Nat.gcd_assoc]
      exact Nat.gcd_dvd_left _ _
    · rw [Nat.lcm_comm]
      refine half _ _ _ y0 x0 (Nat.gcd_dvd_right _ _) ?_
      have e1 : Nat.gcd (Nat.gcd x m) k = Nat.gcd y (Nat.gcd m k) := by rw [← e, Nat.gcd_assoc]
      rw [e1, Nat.gcd_comm m k, ← Nat.gcd_assoc]
      exact Nat.gcd_dvd_left _ _
  intro x y e
  obtain ⟨z, z1, z2⟩ := key x y e
  exact (h1 x z z1.symm).trans (h2 z y z2)
/-- the least number that tells a set -/
def Least (N : Nat) (S : Nat → Prop) : Prop := Tells N S ∧ ∀ p, Pr p → p ∣ N → ¬ Tells (N / p) S
theorem Least.dvd {N m : Nat} {S : Nat → Prop} (N0 : 0 < N) (m0 : 0 < m) (h : Least N S) (g : Tells m S) : N ∣ m := by
  have t := h.1.gcd N0 m0 g
  have d1 : Nat.gcd N m ∣ N := Nat.gcd_dvd_left _ _
  obtain ⟨q, hq⟩ := d1
  by_cases z : 2 ≤ q
  · obtain ⟨p, pp, r, rfl⟩ := pr_ex q z
    generalize Nat.gcd N m = G at *
    refine absurd (t.up ?_) (h.2 p pp ⟨G * r, by rw [hq]; grind⟩)
    have p0 : 0 < p := by have := pp.1; omega
    have e : N / p = G * r := Nat.div_eq_of_eq_mul_right p0 (hq.trans (by grind))
    rw [e]
    exact Nat.dvd_mul_right _ _
  · have : q = 1 := by
      have : q ≠ 0 := fun e => by rw [e, Nat.mul_zero] at hq; omega
      omega
    rw [this, Nat.mul_one] at hq
    rw [hq]
    exact Nat.gcd_dvd_right _ _
theorem Least.unique {N M : Nat} {S : Nat → Prop} (N0 : 0 < N) (M0 : 0 < M) (h : Least N S) (g : Least M S) : N = M :=
  Nat.dvd_antisymm (h.dvd N0 M0 g.1) (g.dvd M0 N0 h.1)
theorem Tells.congr {m : Nat} {S R : Nat → Prop} (h : ∀ x, S x ↔ R x) (t : Tells m S) : Tells m R := fun x y e => (h x).symm.trans ((t x y e).trans (h y))
theorem Least.congr {m : Nat} {S R : Nat → Prop} (h : ∀ x, S x ↔ R x) (t : Least m S) : Least m R := ⟨t.1.congr h, fun p a b c => t.2 p a b (c.congr fun x => (h x).symm)⟩
theorem Tells.not {m : Nat} {S : Nat → Prop} (t : Tells m S) : Tells m fun x => ¬ S x := fun x y e => not_congr (t x y e)
theorem Least.not {m : Nat} {S : Nat → Prop} (t : Least m S) : Least m fun x => ¬ S x := ⟨t.1.not, fun p a b c => t.2 p a b (c.not.congr fun x => Classical.not_not)⟩
/-- where a prime is needed, a smaller number does not tell the set -/
theorem needed {p r : Nat} {ds cs : List Nat} (hp : Pr p) (r1 : 1 ≤ r) (pr : p ∣ r) (h : ¬ Needless p r ds cs) : ¬ Tells (r / p) fun x => Nat.gcd x r ∈ cs := by
  intro t
  refine h fun d _ dr nd => ?_
  obtain ⟨e, he⟩ := dr
  have p0 : 0 < p := by have := hp.1; omega
  have d0 : 0 < d := Nat.pos_of_ne_zero fun k => by subst k; omega
  have re : r / d = e := Nat.div_eq_of_eq_mul_right d0 he
  rw [re] at nd
  have pd : p ∣ d := by
    rw [he] at pr
    exact (hp.dvd_mul pr).elim id fun m => absurd m nd
  obtain ⟨c, rfl⟩ := pd
  have ec : p * c / p = c := Nat.mul_div_cancel_left c p0
  have er : r / p = c * e := Nat.div_eq_of_eq_mul_right p0 (by rw [he, Nat.mul_assoc])
  have g1 : Nat.gcd (p * c) (r / p) = c := by
    rw [er, Nat.mul_comm p c, Nat.gcd_mul_left, (hp.cop nd), Nat.mul_one]
  have g2 : Nat.gcd c (r / p) = c := Nat.gcd_eq_left (er ▸ Nat.dvd_mul_right c e)
  have k : Nat.gcd (p * c) r ∈ cs ↔ Nat.gcd c r ∈ cs := t (p * c) c (g1.trans g2.symm)
  have k1 : Nat.gcd (p * c) r = p * c := Nat.gcd_eq_left ⟨e, he⟩
  have k2 : Nat.gcd c r = c := Nat.gcd_eq_left (Nat.dvd_trans (Nat.dvd_mul_left c p) ⟨e, he⟩)
  rw [k1, k2] at k
  rw [ec]
  exact k
theorem tells_needless {p r : Nat} {ds cs : List Nat} (hp : Pr p) (r1 : 1 ≤ r) (pr : p ∣ r) (hd : ∀ d, d ∣ r → d ∈ ds) (h : Needless p r ds cs) {S : Nat → Prop} (hS : ∀ x, Nat.gcd x r ∈ cs ↔ S x) : Tells (r / p) S := fun x y e => by
  rw [← hS x, ← hS y, ← needless_ok (x := x) hp r1 pr hd h, ← needless_ok (x := y) hp r1 pr hd h, e]
/-! primes with powers -/
def numP (qs : List (Nat × Nat)) : Nat := qs.foldl (fun n q => n * q.1 ^ q.2) 1
def manyP (qs : List (Nat × Nat)) : Nat := qs.foldl (fun n q => n * (q.2 + 1)) 1
theorem numP_snoc (qs : List (Nat × Nat)) (q : Nat × Nat) : numP (qs ++ [q]) = numP qs * q.1 ^ q.2 := by unfold numP; rw [List.foldl_append]; rfl
theorem manyP_snoc (qs : List (Nat × Nat)) (q : Nat × Nat) : manyP (qs ++ [q]) = manyP qs * (q.2 + 1) := by unfold manyP; rw [List.foldl_append]; rfl
/-- unlike primes with powers -/
structure Parts (qs : List (Nat × Nat)) : Prop where
  nd : (qs.map Prod.fst).Nodup
  pr : ∀ q ∈ qs, Pr q.1 ∧ 1 ≤ q.2
theorem Parts.nil : Parts [] := ⟨List.nodup_nil, fun q m => absurd m List.not_mem_nil⟩
theorem Parts.snoc {qs : List (Nat × Nat)} {p k : Nat} (h : Parts qs) (hp : Pr p) (k1 : 1 ≤ k) (n : p ∉ qs.map Prod.fst) : Parts (qs ++ [(p, k)]) := ⟨by
  rw [List.map_append]
  exact List.pairwise_append.mpr ⟨h.nd, List.pairwise_singleton _ _, fun a ha b hb e => n (by rw [List.mem_singleton.mp hb] at e; have e2 : a = p := e; exact e2 ▸ ha)⟩, fun q m => by
  rcases List.mem_append.mp m with m | m
  · exact h.pr q m
  · rw [List.mem_singleton.mp m]; exact ⟨hp, k1⟩⟩
theorem Parts.left {qs rs : List (Nat × Nat)} (h : Parts (qs ++ rs)) : Parts qs := ⟨by
  have := h.nd
  rw [List.map_append] at this
  exact (List.pairwise_append.mp this).1, fun q m => h.pr q (List.mem_append_left _ m)⟩
theorem Parts.pos {qs : List (Nat × Nat)} (h : Parts qs) : 1 ≤ numP qs := by
  induction qs using snoc_ind with
  | h0 => exact Nat.le_refl 1
  | hs qs q ih =>
    rw [numP_snoc]
    have := (h.pr q (List.mem_append_right _ (List.mem_singleton.mpr rfl))).1.1
    exact Nat.mul_pos (ih h.left) (Nat.pow_pos (by omega))
theorem Parts.dvd {qs : List (Nat × Nat)} {p : Nat} (h : Parts qs) (hp : Pr p) : p ∣ numP qs ↔ p ∈ qs.map Prod.fst := by
  induction qs using snoc_ind with
  | h0 =>
    constructor
    · intro m
      have := Nat.le_of_dvd (by decide) (show p ∣ 1 from m)
      have := hp.1
      omega
    · intro m; cases m
  | hs qs q ih =>
    obtain ⟨h1, h2⟩ := h.pr q (List.mem_append_right _ (List.mem_singleton.mpr rfl))
    rw [numP_snoc, List.map_append, List.mem_append, ← ih h.left]
    constructor
    · intro m
      rcases hp.dvd_mul m with m | m
      · exact .inl m
      · exact .inr (by rw [hp.eq h1 (hp.dvd_pow m)]; exact List.mem_singleton.mpr rfl)
    · rintro (m | m)
      · exact Nat.dvd_trans m (Nat.dvd_mul_right _ _)
      · rw [List.mem_singleton.mp m]
        exact Nat.dvd_trans (Nat.dvd_trans (by rw [Nat.pow_one]; exact Nat.dvd_refl _) (Nat.pow_dvd_pow q.1 h2)) (Nat.dvd_mul_left _ _)
theorem Parts.full {qs : List (Nat × Nat)} {p k : Nat} (h : Parts qs) (m : (p, k) ∈ qs) : p ^ k ∣ numP qs ∧ ¬ p ^ (k + 1) ∣ numP qs := by
  induction qs using snoc_ind with
  | h0 => cases m
  | hs qs q ih =>
    obtain ⟨h1, h2⟩ := h.pr q (List.mem_append_right _ (List.mem_singleton.mpr rfl))
    have hnd := h.nd
    rw [List.map_append] at hnd
    obtain ⟨_, _, apart⟩ := List.pairwise_append.mp hnd
    rw [numP_snoc]
    rcases List.mem_append.mp m with m | m
    · obtain ⟨a, b⟩ := ih h.left m
      have hpp := (h.left.pr _ m).1
      have ne : p ≠ q.1 := apart p (List.mem_map.mpr ⟨_, m, rfl⟩) q.1 (List.mem_singleton.mpr rfl)
      refine ⟨Nat.dvd_trans a (Nat.dvd_mul_right _ _), fun c => b ?_⟩
      have cp : Nat.Coprime p q.1 := hpp.cop fun z => ne (hpp.eq h1 z)
      exact (Nat.Coprime.pow_left _ (Nat.Coprime.pow_right _ cp)).dvd_of_dvd_mul_right c
    · have e := List.mem_singleton.mp m
      subst e
      refine ⟨Nat.dvd_mul_left _ _, fun c => ?_⟩
      have p0 : 0 < p ^ k := Nat.pow_pos (by have := h1.1; simp only at this; omega)
      rw [Nat.pow_succ, Nat.mul_comm (numP qs)] at c
      have d := Nat.dvd_of_mul_dvd_mul_left p0 c
      have i := (h.left.dvd h1).mp d
      exact apart p i p (List.mem_singleton.mpr rfl) rfl
theorem Divs.allP {n : Nat} {ds : List Nat} {qs : List (Nat × Nat)} (hn : n = numP qs) (h : Divs n (qs.map Prod.fst) ds) (g : Parts qs) (d : Nat) : d ∈ ds ↔ d ∣ n := by
  rw [h.iff d]
  exact ⟨fun q => q.1, fun q => ⟨q, fun p hp m => (g.dvd hp).mp (Nat.dvd_trans m (hn ▸ q))⟩⟩
end L3

set_option Elab.async false
set_option linter.all false
set_option maxRecDepth 100000
set_option maxHeartbeats 2000000
/-! comprehensions that keep some of a list's numbers. -/
namespace L3
open PySem L2 PyProof.Rows
theorem lt1 {n : Nat} (h : n + 64 < cLine) : n + 1 < cLine := by omega
theorem sub_take {ds cs : List Nat} {i d : Nat} (h : cs.Sublist (ds.take i)) (e : ds[i]? = some d) : cs.Sublist (ds.take (i + 1)) ∧ (cs ++ [d]).Sublist (ds.take (i + 1)) := by
  have t : ds.take (i + 1) = ds.take i ++ [d] := by rw [List.take_succ, e]; rfl
  rw [t]
  exact ⟨h.trans (List.sublist_append_left _ _), h.append (List.Sublist.refl _)⟩
section
variable {P : Prop} {dP : Decidable P} {te : TE} {σ : L2.St} {H : Hp} {R : Option V → Hp → Prop}
theorem lce_2 (h1 : P → te σ H fun y H4 => R (some y) H4) (h2 : ¬ P → R none H) : LcE R te (decide P) σ H := by
  by_cases e : P
  · exact lce_y e (h1 e)
  · exact lce_n e (h2 e)
theorem lce_n2 (h1 : ¬ P → te σ H fun y H4 => R (some y) H4) (h2 : P → R none H) : LcE R te (!decide P) σ H := by
  by_cases e : P
  · exact lce_ny e (h2 e)
  · exact lce_nn e (h1 e)
end
section
variable {K : PySem.W.Frag} {H : Hp} {Q : VK} {g : TG} {tt : TT} {te : TE} {vs : List Nat} {σ : L2.St} {a : Addr} {ds : List Nat}
theorem lc_sub (In : Hp → Prop) (hz : ds.length ≤ 100000) (i0 : In H) (sq : ∀ H1, In H1 → H1 a = some (.lst (ds.map fun d : Nat => V.int (d : Int))))
    (fr : ∀ D, H D = none → ∀ H1 H2, SB D H1 H2 → In H1 → In H2)
    (hs : ∀ d ∈ ds, ∀ H1, In H1 → ∀ Z : Option V → Hp → Prop, (∀ (b : Bool) H4, (∀ a u, H a = none → H1 a = some u → H4 a = some u) → In H4 → Z (if b = true then some (.int (d : Int)) else none) H4) → LcT g tt te vs σ (.int (d : Int)) H1 Z)
    (k : ∀ (D : Addr) (cs : List Nat) H', Fr H D → cs.Sublist ds → In H' → H' D = some (.lst (cs.map fun d : Nat => V.int (d : Int))) → Q (.ref D) H') : LcL K g tt te vs σ (.ref a) H Q := by
  refine lcl_acc (fun i acc H1 => In H1 ∧ ∃ cs : List Nat, acc = (cs.map fun d : Nat => V.int (d : Int)) ∧ cs.Sublist (ds.take i)) (SqL.of (sq H i0)) (by rw [List.length_map]; exact hz) ⟨i0, [], rfl, List.nil_sublist _⟩ (fun i acc H1 q => SqL.of (sq H1 q.1)) ?_ ?_ ?_
  · rintro D hD i acc H1 H2 s2 ⟨h1, q⟩
    exact ⟨fr D hD _ _ s2 h1, q⟩
  · rintro i x acc H1 hx al ⟨h1, cs, rfl, sub⟩ Z kZ kN
    rw [List.getElem?_map] at hx
    obtain ⟨d, hd, rfl⟩ := Option.map_eq_some_iff.mp hx
    obtain ⟨q1, q2⟩ := sub_take sub hd
    refine hs d (List.mem_of_getElem? hd) H1 h1 Z fun b H4 keep h4 => ?_
    cases b with
    | true => exact kZ _ H4 keep ⟨h4, cs ++ [d], by rw [List.map_append]; rfl, q2⟩
    | false => exact kN H4 keep ⟨h4, cs, rfl, q1⟩
  · rintro D acc H' fD al ⟨h1, cs, rfl, sub⟩ hD
    rw [List.length_map, List.take_length] at sub
    exact k D cs H' fD sub h1 hD
/-- the test tells nothing but itself -/
theorem lc_sub0 (hz : ds.length ≤ 100000) (h1 : H a = some (.lst (ds.map fun d : Nat => V.int (d : Int))))
    (hs : ∀ d ∈ ds, ∀ H1, Same H H1 → ∀ Z : Option V → Hp → Prop, (∀ (b : Bool) H4, Same H1 H4 → Z (if b = true then some (.int (d : Int)) else none) H4) → LcT g tt te vs σ (.int (d : Int)) H1 Z)
    (k : ∀ (D : Addr) (cs : List Nat) H', Fr H D → cs.Sublist ds → Same H H' → H' D = some (.lst (cs.map fun d : Nat => V.int (d : Int))) → Q (.ref D) H') : LcL K g tt te vs σ (.ref a) H Q :=
  lc_sub (fun H1 => Same H H1) hz (Same.refl _) (fun H1 s => s _ _ h1) (fun D hD H1 H2 s2 s1 b o q => s2 _ _ (ne_of_none q hD) (s1 _ _ q))
    (fun d hd H1 s Z kZ => hs d hd H1 s Z fun b H4 s4 => kZ b H4 (fun a u _ q => s4 _ _ q) (s.trans s4)) k
end
end L3

set_option Elab.async false
set_option linter.all false
set_option maxRecDepth 100000
set_option maxHeartbeats 2000000
/-! dicts of numbers compared. -/
namespace L3
open PySem PySem.Spec L2 PyProof.Rows
theorem hits_dI {A : Around} {s : Shared} {vb : List (Key × Value)} {ls : List Nat} (rb : KV (dI ls) vb) : ∀ {ks : List Nat} {va : List (Key × Value)}, KV (dI ks) va → PySem.W.KeqHits A s vb va (decide (∀ k ∈ ks, k ∈ ls))
  | [], va, ra => by
    unfold KV dI at ra
    cases ra
    exact .nil
  | k :: ks, va, ra => by
    unfold KV at ra
    have ra2 : Paired (fun (p : Key × V) (q : Key × Value) => p.1 = q.1 ∧ RelV p.2 q.2) (((Sum.inl (k : Int) : Key), V.bl true) :: dI ks) va := ra
    cases ra2 with
    | @cons _ q _ qs h t =>
      obtain ⟨h1, h2⟩ := h
      obtain ⟨k', v⟩ := q
      have h1' : (Sum.inl (k : Int) : Key) = k' := h1
      subst h1'
      have rr := rb.val (Sum.inl (k : Int))
      rw [dI_val] at rr
      have ih := hits_dI rb (ks := ks) (va := qs) t (A := A) (s := s)
      by_cases m : k ∈ ls
      · rw [if_pos m] at rr
        obtain ⟨y, hy, ry⟩ := rr.some_of
        have e : decide (∀ z ∈ k :: ks, z ∈ ls) = (true && decide (∀ z ∈ ks, z ∈ ls)) := by
          rw [Bool.true_and]
          refine decide_eq_decide.mpr ⟨fun q z hz => q z (List.mem_cons_of_mem _ hz), fun q z hz => ?_⟩
          rcases List.mem_cons.mp hz with rfl | hz
          · exact m
          · exact q z hz
        rw [e]
        exact .hit hy (eqAt_same h2 ry rfl) ih
      · rw [if_neg m] at rr
        have e : decide (∀ z ∈ k :: ks, z ∈ ls) = false := decide_eq_false fun q => m (q k List.mem_cons_self)
        rw [e]
        refine .miss ?_
        cases e2 : valueAt vb (Sum.inl (k : Int) : Key) with
        | none => rfl
        | some y => rw [e2] at rr; exact (show False from rr).elim
def rEqDI : R2 := fun x y H Q => ∃ a b ks ls, x = .ref a ∧ y = .ref b ∧ H a = some (.dK (dI ks)) ∧ H b = some (.dK (dI ls)) ∧ Q (.bl (decide (ks.length = ls.length ∧ ∀ k ∈ ks, k ∈ ls))) H
section
variable {X : Cx}
theorem op_eqDI (hu : X.A.units + 64 < cLine) : OpR X (compareOp .Eq) rEqDI := by
  intro pins s σ H x y v u Q I rx ry h
  obtain ⟨a, b, ks, ls, rfl, rfl, ea, eb, q⟩ := h
  obtain rfl : v = Value.ref a := rx
  obtain rfl : u = Value.ref b := ry
  obtain ⟨_, ya, va, ra, da⟩ := (show ObjOk X.prog X.w H s.heap a (.dK (dI ks)) from I.hok a _ ea)
  obtain ⟨_, yb, vb, rb, db⟩ := (show ObjOk X.prog X.w H s.heap b (.dK (dI ls)) from I.hok b _ eb)
  have la : (dI ks).length = va.length := ra.length
  have lb : (dI ls).length = vb.length := rb.length
  unfold dI at la lb
  rw [List.length_map] at la lb
  refine PySem.W.keq_eq (knd := mixKind X.prog X.w) (r := decide (∀ k ∈ ks, k ∈ ls)) ya yb da db (by omega) (fun _ => hits_dI rb ra) (fin_bl I q ?_)
  rw [← la, ← lb, Bool.eq_iff_iff, decide_eq_true_iff, Bool.and_eq_true, beq_iff_eq, decide_eq_true_iff]
end
theorem up_eq {a b : List Nat} (ha : a.Pairwise (· < ·)) (hb : b.Pairwise (· < ·)) : (a.length = b.length ∧ ∀ k ∈ a, k ∈ b) ↔ a = b := by
  constructor
  · rintro ⟨l, h⟩
    refine up_unique ha hb fun d => ⟨h d, fun m => ?_⟩
    apply Classical.byContradiction
    intro n
    have nd : (d :: a).Nodup := List.nodup_cons.mpr ⟨n, ha.imp fun {x y} q => Nat.ne_of_lt q⟩
    have := nd.length_le_of_subset (l₂ := b) fun x mx => by
      rcases List.mem_cons.mp mx with rfl | mx
      · exact m
      · exact h x mx
    rw [List.length_cons] at this
    omega
  · rintro rfl
    exact ⟨rfl, fun k m => m⟩
end L3

set_option Elab.async false
set_option linter.all false
set_option maxRecDepth 100000
set_option maxHeartbeats 2000000
/-! the primes of two numbers, put together. -/
namespace L3
open PySem L2 PyProof.Rows
theorem Parts.cop {qs : List (Nat × Nat)} {p k : Nat} (h : Parts qs) (hp : Pr p) (n : p ∉ qs.map Prod.fst) : Nat.Coprime (numP qs) (p ^ k) := by
  have : ¬ p ∣ numP qs := fun d => n ((h.dvd hp).mp d)
  exact (Nat.Coprime.pow_left _ (hp.cop this)).symm
theorem Parts.dvdAll {ts : List (Nat × Nat)} {M : Nat} (h : Parts ts) (hd : ∀ t ∈ ts, t.1 ^ t.2 ∣ M) : numP ts ∣ M := by
  induction ts using snoc_ind with
  | h0 => exact Nat.one_dvd _
  | hs ts t ih =>
    rw [numP_snoc]
    have nd := h.nd
    rw [List.map_append] at nd
    have apart := (List.pairwise_append.mp nd).2.2
    have hp := (h.pr t (List.mem_append_right _ (List.mem_singleton.mpr rfl))).1
    refine (h.left.cop hp fun m => apart _ m _ (List.mem_singleton.mpr rfl) rfl).mul_dvd_of_dvd_of_dvd (ih h.left fun t m => hd t (List.mem_append_left _ m)) (hd t (List.mem_append_right _ (List.mem_singleton.mpr rfl)))
/-- as many divisors -/
theorem Parts.list {ts : List (Nat × Nat)} (h : Parts ts) : ∃ L : List Nat, L.Nodup ∧ (∀ d ∈ L, d ∣ numP ts) ∧ L.length = manyP ts := by
  induction ts using snoc_ind with
  | h0 => exact ⟨[1], by simp, fun d m => by rw [List.mem_singleton.mp m]; exact Nat.one_dvd _, rfl⟩
  | hs ts t ih =>
    obtain ⟨p, k⟩ := t
    obtain ⟨L, h1, h2, h3⟩ := ih h.left
    have nd := h.nd
    rw [List.map_append] at nd
    have apart := (List.pairwise_append.mp nd).2.2
    have hp := (h.pr _ (List.mem_append_right _ (List.mem_singleton.mpr rfl))).1
    have npd : ∀ d ∈ L, ¬ p ∣ d := fun d m z => by
      have := (h.left.dvd hp).mp (Nat.dvd_trans z (h2 d m))
      exact apart _ this p (List.mem_singleton.mpr rfl) rfl
    have p0 : 0 < p := by have := hp.1; simp only at this; omega
    have key : ∀ j, ∃ M : List Nat, M.Nodup ∧ (∀ d ∈ M, d ∣ numP ts * p ^ j ∧ ¬ p ^ (j + 1) ∣ d) ∧ M.length = manyP ts * (j + 1) := by
      intro j
      induction j with
      | zero => exact ⟨L, h1, fun d m => ⟨by rw [Nat.pow_zero, Nat.mul_one]; exact h2 d m, by rw [Nat.zero_add, Nat.pow_one]; exact npd d m⟩, by rw [h3]; omega⟩
      | succ j ih2 =>
        obtain ⟨M, m1, m2, m3⟩ := ih2
        have pj : 0 < p ^ (j + 1) := Nat.pow_pos p0
        refine ⟨M ++ L.map (· * p ^ (j + 1)), List.pairwise_append.mpr ⟨m1, List.pairwise_map.mpr (h1.imp fun {a b} q e => q (Nat.eq_of_mul_eq_mul_right pj e)), fun a ha b hb e => ?_⟩, fun d m => ?_, ?_⟩
        · obtain ⟨w, _, rfl⟩ := List.mem_map.mp hb
          exact (m2 a ha).2 (e ▸ Nat.dvd_mul_left _ _)
        · rcases List.mem_append.mp m with m | m
          · obtain ⟨a, b⟩ := m2 d m
            exact ⟨Nat.dvd_trans a (Nat.mul_dvd_mul_left _ (Nat.pow_dvd_pow p (by omega))), fun c => b (Nat.dvd_trans (Nat.pow_dvd_pow p (by omega)) c)⟩
          · obtain ⟨w, hw, rfl⟩ := List.mem_map.mp m
            refine ⟨Nat.mul_dvd_mul_right (h2 w hw) _, fun c => npd w hw ?_⟩
            rw [Nat.pow_succ p (j + 1), Nat.mul_comm w] at c
            exact Nat.dvd_of_mul_dvd_mul_left pj c
        · rw [List.length_append, List.length_map, m3, h3]
          grind
    obtain ⟨M, m1, m2, m3⟩ := key k
    exact ⟨M, m1, fun d m => by rw [numP_snoc]; exact (m2 d m).1, by rw [manyP_snoc, m3]⟩
theorem Parts.many {ts : List (Nat × Nat)} {m : Nat} (h : Parts ts) (f : Few (numP ts) m) : manyP ts ≤ m := by
  obtain ⟨L, h1, h2, h3⟩ := h.list
  rw [← h3]
  exact f L h1 h2
/-- the primes of both, each with the greater power -/
theorem join_ok {qs rs t1 t2 : List (Nat × Nat)} (hq : Parts qs) (hr : Parts rs) (e1 : t1.map Prod.fst = qs.map Prod.fst) (m1 : ∀ t ∈ t1, t ∈ qs ∨ t ∈ rs) (g1 : ∀ q ∈ qs, ∃ t ∈ t1, t.1 = q.1 ∧ q.2 ≤ t.2) (g2 : ∀ r ∈ rs, r.1 ∈ qs.map Prod.fst → ∃ t ∈ t1, t.1 = r.1 ∧ r.2 ≤ t.2)
    (s2 : t2.Sublist rs) (n2 : ∀ t ∈ t2, t.1 ∉ qs.map Prod.fst) (a2 : ∀ r ∈ rs, r.1 ∉ qs.map Prod.fst → r ∈ t2) : Parts (t1 ++ t2) ∧ numP (t1 ++ t2) = Nat.lcm (numP qs) (numP rs) := by
  have mem : ∀ t ∈ t1 ++ t2, t ∈ qs ∨ t ∈ rs := fun t m => (List.mem_append.mp m).elim (m1 t) fun m => .inr (s2.subset m)
  have hp : Parts (t1 ++ t2) := by
    refine ⟨?_, fun t m => (mem t m).elim (hq.pr t) (hr.pr t)⟩
    rw [List.map_append, e1]
    refine List.pairwise_append.mpr ⟨hq.nd, hr.nd.sublist (s2.map _), fun a ha b hb e => ?_⟩
    obtain ⟨t, m, rfl⟩ := List.mem_map.mp hb
    exact n2 t m (e ▸ ha)
  refine ⟨hp, Nat.dvd_antisymm (hp.dvdAll fun t m => ?_) (Nat.lcm_dvd (hq.dvdAll fun q m => ?_) (hr.dvdAll fun r m => ?_))⟩
  · rcases mem t m with m | m
    · exact Nat.dvd_trans (hq.full (p := t.1) (k := t.2) m).1 (Nat.dvd_lcm_left _ _)
    · exact Nat.dvd_trans (hr.full (p := t.1) (k := t.2) m).1 (Nat.dvd_lcm_right _ _)
  · obtain ⟨t, mt, e, l⟩ := g1 q m
    rw [← e]
    exact Nat.dvd_trans (Nat.pow_dvd_pow _ l) (hp.full (p := t.1) (k := t.2) (List.mem_append_left _ mt)).1
  · by_cases z : r.1 ∈ qs.map Prod.fst
    · obtain ⟨t, mt, e, l⟩ := g2 r m z
      rw [← e]
      exact Nat.dvd_trans (Nat.pow_dvd_pow _ l) (hp.full (p := t.1) (k := t.2) (List.mem_append_left _ mt)).1
    · exact (hp.full (p := r.1) (k := r.2) (List.mem_append_right _ (a2 r m z))).1
section
variable {K : PySem.W.Frag} {H : Hp} {Q : VK} {g : TG} {tt : TT} {te : TE} {vs : List Nat} {σ : L2.St} {a : Addr} {xs : List V}
/-- a comprehension that keeps a state, also of what it makes -/
theorem lcl_accD (Pv : Addr → Nat → List V → Hp → Prop) (h1 : SqL K H a xs) (hz : xs.length ≤ 100000) (h0 : ∀ D, H D = none → ∀ H', Same H H' → H' D = some (.lst []) → Pv D 0 [] H')
    (sq : ∀ D i acc H1, H D = none → Pv D i acc H1 → SqL K H1 a xs)
    (hs : ∀ D, H D = none → ∀ (i : Nat) x acc H1, xs[i]? = some x → acc.length ≤ i → H1 D = some (.lst acc) → Pv D i acc H1 → ∀ Z : Option V → Hp → Prop,
      (∀ y H4, H4 D = some (.lst acc) → (∀ H5, SB D H4 H5 → H5 D = some (.lst (acc ++ [y])) → Pv D (i + 1) (acc ++ [y]) H5) → Z (some y) H4) →
      (∀ H4, H4 D = some (.lst acc) → Pv D (i + 1) acc H4 → Z none H4) → LcT g tt te vs σ x H1 Z)
    (k : ∀ D acc H', Fr H D → acc.length ≤ xs.length → Pv D xs.length acc H' → H' D = some (.lst acc) → Q (.ref D) H') : LcL K g tt te vs σ (.ref a) H Q := by
  refine ⟨a, rfl, ⟨xs, h1⟩, fun D hD => lc_list (xs := xs) (fun i H' => ∃ acc, acc.length ≤ i ∧ i ≤ xs.length ∧ Pv D i acc H' ∧ H' D = some (.lst acc)) ⟨[], Nat.le_refl _, Nat.zero_le _, h0 D hD _ (same_upd hD) upd_same, upd_same⟩ (fun i H' _ ⟨acc, _, _, p, _⟩ => sq D _ _ _ hD p) ?_ ?_⟩
  · rintro i x H1 hx ⟨acc, al, il, pv, eD⟩
    have hlt : i < xs.length := (List.getElem?_eq_some_iff.mp hx).1
    refine hs D hD i x acc H1 hx al eD pv (fun o H4 => match o with
      | some y => ∃ ac, H4 D = some (.lst ac) ∧ ac.length < sizeLine ∧ ∃ acc', acc'.length ≤ i + 1 ∧ i + 1 ≤ xs.length ∧ Pv D (i + 1) acc' (upd H4 D (.lst (ac ++ [y]))) ∧ (upd H4 D (.lst (ac ++ [y]))) D = some (.lst acc')
      | none => ∃ acc', acc'.length ≤ i + 1 ∧ i + 1 ≤ xs.length ∧ Pv D (i + 1) acc' H4 ∧ H4 D = some (.lst acc')) (fun y H4 e4 pv4 => ?_) (fun H4 e4 pv4 => ?_)
    · refine ⟨acc, e4, ?_, acc ++ [y], by rw [List.length_append]; simp only [List.length_singleton]; omega, hlt, pv4 _ sb_upd upd_same, upd_same⟩
      exact Nat.lt_of_le_of_lt (by omega : _ ≤ 100000) (by decide)
    · exact ⟨acc, by omega, hlt, pv4, e4⟩
  · rintro H1 ⟨acc, al, _, pv, eD⟩
    exact k D acc H1 ⟨hD⟩ al pv eD
end
end L3

set_option Elab.async false
set_option linter.all false
set_option maxRecDepth 100000
set_option maxHeartbeats 2000000
/-! sums over lists; the weights of divisors; how many sizes there are. -/
namespace L3
open PySem L2 PyProof.Rows
def sm (l : List Nat) (w : Nat → Int) : Int := (l.map w).sum
theorem sm_nil (w : Nat → Int) : sm [] w = 0 := rfl
theorem sm_cons (d : Nat) (l : List Nat) (w : Nat → Int) : sm (d :: l) w = w d + sm l w := by unfold sm; rw [List.map_cons, List.sum_cons]
theorem sm_perm {l1 l2 : List Nat} (h : l1.Perm l2) (w : Nat → Int) : sm l1 w = sm l2 w := by
  induction h with
  | nil => rfl
  | cons x _ ih => rw [sm_cons, sm_cons, ih]
  | swap x y l => rw [sm_cons, sm_cons, sm_cons, sm_cons]; omega
  | trans _ _ ih1 ih2 => rw [ih1, ih2]
theorem sm_congr {l : List Nat} {w v : Nat → Int} (h : ∀ d ∈ l, w d = v d) : sm l w = sm l v := by
  unfold sm
  rw [List.map_congr_left h]
theorem sm_sub (l : List Nat) (w v : Nat → Int) : sm l (fun d => w d - v d) = sm l w - sm l v := by
  induction l with
  | nil => rfl
  | cons d l ih => rw [sm_cons, sm_cons, sm_cons, ih]; omega
theorem sm_add (l : List Nat) (w v : Nat → Int) : sm l (fun d => w d + v d) = sm l w + sm l v := by
  induction l with
  | nil => rfl
  | cons d l ih => rw [sm_cons, sm_cons, sm_cons, ih]; omega
theorem sm_if (p : Nat → Prop) [DecidablePred p] (l : List Nat) (w : Nat → Int) : sm l (fun d => if p d then w d else 0) = sm (l.filter fun d => decide (p d)) w := by
  induction l with
  | nil => rfl
  | cons d l ih =>
    rw [sm_cons, ih, List.filter_cons]
    by_cases h : p d
    · rw [if_pos h, if_pos (decide_eq_true h), sm_cons]
    · rw [if_neg h, if_neg (by rw [decide_eq_false h]; exact Bool.false_ne_true)]; omega
theorem sm_split (p : Nat → Prop) [DecidablePred p] (l : List Nat) (w : Nat → Int) : sm l w = sm (l.filter fun d => decide (p d)) w + sm (l.filter fun d => decide (¬ p d)) w := by
  induction l with
  | nil => rfl
  | cons d l ih =>
    rw [sm_cons, ih, List.filter_cons, List.filter_cons]
    by_cases h : p d
    · rw [if_pos (decide_eq_true h), if_neg (by rw [decide_eq_false (fun k => k h)]; exact Bool.false_ne_true), sm_cons]; omega
    · rw [if_neg (by rw [decide_eq_false h]; exact Bool.false_ne_true), if_pos (decide_eq_true h), sm_cons]; omega
theorem sm_map (l : List Nat) (f : Nat → Nat) (w : Nat → Int) : sm (l.map f) w = sm l fun d => w (f d) := by
  unfold sm
  rw [List.map_map]
  rfl
theorem sm_same {l1 l2 : List Nat} (n1 : l1.Nodup) (n2 : l2.Nodup) (h : ∀ d, d ∈ l1 ↔ d ∈ l2) (w : Nat → Int) : sm l1 w = sm l2 w :=
  sm_perm ((List.perm_ext_iff_of_nodup n1 n2).mpr h) w
theorem sm_one (d : Nat) (w : Nat → Int) : sm [d] w = w d := by rw [sm_cons, sm_nil]; omega
def stepW (p : Nat) (w : Nat → Int) : Nat → Int := fun d => if p ∣ d then w d - w (d / p) else w d
def wts (ps : List Nat) (w : Nat → Int) : Nat → Int := ps.foldl (fun w p => stepW p w) w
theorem wts_snoc (ps : List Nat) (p : Nat) (w : Nat → Int) : wts (ps ++ [p]) w = stepW p (wts ps w) := by unfold wts; rw [List.foldl_append]; rfl
/-- the primes of a number are among some -/
def Amg (done : List Nat) (n : Nat) : Prop := ∀ q, Pr q → q ∣ n → q ∈ done
open Classical in
theorem wts_part {N x : Nat} {ds : List Nat} (N1 : 1 ≤ N) (hds : AllDivs N ds) (w0 : Nat → Int) : ∀ done : List Nat, done.Nodup → (∀ p ∈ done, Pr p) →
    sm (ds.filter fun d => decide (d ∣ Nat.gcd x N ∧ Amg done (Nat.gcd x N / d))) (wts done w0) = w0 (Nat.gcd x N) := by
  have ndd : ds.Nodup := hds.up.imp fun {a b} q => Nat.ne_of_lt q
  generalize hg : Nat.gcd x N = g
  have gN : g ∣ N := hg ▸ Nat.gcd_dvd_right _ _
  have g0 : 0 < g := Nat.pos_of_dvd_of_pos gN N1
  intro done
  induction done using snoc_ind with
  | h0 =>
    intro _ _
    show sm _ w0 = _
    rw [sm_same (l2 := [g]) (ndd.filter _) (by simp) (fun d => ?_), sm_one]
    rw [List.mem_filter, List.mem_singleton, decide_eq_true_iff, hds.iff]
    constructor
    · rintro ⟨_, ⟨r, hr⟩, c⟩
      have d0 : 0 < d := Nat.pos_of_ne_zero fun e => by subst e; omega
      rw [hr, Nat.mul_div_cancel_left r d0] at c
      have r1 : r = 1 := by
        apply Classical.byContradiction
        intro w
        have r0 : r ≠ 0 := fun e => by subst e; omega
        obtain ⟨p, hp, pm⟩ := pr_ex r (by omega)
        exact List.not_mem_nil (c p hp pm)
      rw [hr, r1, Nat.mul_one]
    · rintro rfl
      refine ⟨gN, Nat.dvd_refl _, fun q hq m => ?_⟩
      rw [Nat.div_self g0] at m
      have := Nat.le_of_dvd (by decide) m
      have := hq.1
      omega
  | hs done p ih =>
    intro nd hp
    obtain ⟨nd1, _, nd3⟩ := List.pairwise_append.mp nd
    have pp := hp p (List.mem_append_right _ (List.mem_singleton.mpr rfl))
    have pn : p ∉ done := fun m => nd3 p m p (List.mem_singleton.mpr rfl) rfl
    have ih2 := ih nd1 fun q m => hp q (List.mem_append_left _ m)
    have p0 : 0 < p := by have := pp.1; omega
    rw [wts_snoc]
    generalize wts done w0 = w at *
    rw [← ih2]
    generalize hA : (ds.filter fun d => decide (d ∣ g ∧ Amg (done ++ [p]) (g / d))) = A
    have mA : ∀ d, d ∈ A ↔ d ∣ g ∧ Amg (done ++ [p]) (g / d) := fun d => by
      rw [← hA, List.mem_filter, decide_eq_true_iff, hds.iff]
      exact ⟨fun k => k.2, fun k => ⟨Nat.dvd_trans k.1 gN, k⟩⟩
    have ndA : A.Nodup := hA ▸ ndd.filter _
    have e1 : sm A (stepW p w) = sm A w - sm (A.filter fun d => decide (p ∣ d)) fun d => w (d / p) := by
      rw [← sm_if (fun d => p ∣ d), ← sm_sub]
      refine sm_congr fun d _ => ?_
      show (if p ∣ d then w d - w (d / p) else w d) = _
      by_cases h : p ∣ d
      · rw [if_pos h, if_pos h]
      · rw [if_neg h, if_neg h]; omega
    have e5 : (sm (A.filter fun d => decide (p ∣ d)) fun d => w (d / p)) = sm ((A.filter fun d => decide (p ∣ d)).map (· / p)) w := (sm_map _ _ _).symm
    rw [e1, e5, sm_split (fun d => p ∣ g / d) A w]
    have e2 : sm ((A.filter fun d => decide (p ∣ d)).map (· / p)) w = sm (A.filter fun d => decide (p ∣ g / d)) w := by
      refine sm_same (List.pairwise_map.mpr (List.Pairwise.imp_of_mem ?_ (ndA.filter _))) (ndA.filter _) (fun e => ?_) w
      · intro a b ha hb ne eq
        have da := of_decide_eq_true (List.mem_filter.mp ha).2
        have db := of_decide_eq_true (List.mem_filter.mp hb).2
        exact ne (by rw [← Nat.div_mul_cancel da, ← Nat.div_mul_cancel db, eq])
      · rw [List.mem_map, List.mem_filter, decide_eq_true_iff, mA]
        constructor
        · rintro ⟨d, md, rfl⟩
          obtain ⟨m1, m2⟩ := List.mem_filter.mp md
          obtain ⟨⟨r, hr⟩, c⟩ := (mA d).mp m1
          obtain ⟨t, rfl⟩ := of_decide_eq_true m2
          have t0 : 0 < t := Nat.pos_of_ne_zero fun e => by subst e; omega
          rw [Nat.mul_div_cancel_left t p0]
          have d0 : 0 < p * t := Nat.mul_pos p0 t0
          rw [hr, Nat.mul_div_cancel_left r d0] at c
          have e3 : g / t = p * r := by rw [hr]; exact Nat.div_eq_of_eq_mul_right t0 (by grind)
          rw [e3]
          refine ⟨⟨⟨p * r, by rw [hr]; grind⟩, fun q hq m => ?_⟩, Nat.dvd_mul_right _ _⟩
          rcases hq.dvd_mul m with m | m
          · rw [hq.eq pp m]; exact List.mem_append_right _ (List.mem_singleton.mpr rfl)
          · exact c q hq m
        · rintro ⟨⟨⟨r, hr⟩, c⟩, m⟩
          have e0 : 0 < e := Nat.pos_of_ne_zero fun k => by subst k; omega
          rw [hr, Nat.mul_div_cancel_left r e0] at c m
          obtain ⟨t, rfl⟩ := m
          refine ⟨p * e, List.mem_filter.mpr ⟨(mA _).mpr ⟨⟨t, by rw [hr]; grind⟩, fun q hq m => c q hq ?_⟩, decide_eq_true (Nat.dvd_mul_right _ _)⟩, Nat.mul_div_cancel_left e p0⟩
          have e3 : g / (p * e) = t := Nat.div_eq_of_eq_mul_right (Nat.mul_pos p0 e0) (by rw [hr]; grind)
          rw [e3] at m
          exact Nat.dvd_trans m (Nat.dvd_mul_left _ _)
    have e4 : sm (A.filter fun d => decide (¬ p ∣ g / d)) w = sm (ds.filter fun d => decide (d ∣ g ∧ Amg done (g / d))) w := by
      refine sm_same (ndA.filter _) (ndd.filter _) (fun d => ?_) w
      rw [List.mem_filter, List.mem_filter, decide_eq_true_iff, decide_eq_true_iff, mA, hds.iff]
      constructor
      · rintro ⟨⟨a, b⟩, c⟩
        refine ⟨Nat.dvd_trans a gN, a, fun q hq m => ?_⟩
        rcases List.mem_append.mp (b q hq m) with k | k
        · exact k
        · rw [List.mem_singleton.mp k] at m; exact absurd m c
      · rintro ⟨_, a, b⟩
        exact ⟨⟨a, fun q hq m => List.mem_append_left _ (b q hq m)⟩, fun m => pn (b p pp m)⟩
    rw [e2, e4]
    omega
open Classical in
theorem wts_sum {N x : Nat} {ds ps : List Nat} (N1 : 1 ≤ N) (hds : AllDivs N ds) (hps : Primes N ps) (w0 : Nat → Int) : sm (ds.filter fun d => decide (d ∣ x)) (wts ps w0) = w0 (Nat.gcd x N) := by
  rw [← wts_part (x := x) N1 hds w0 ps (hps.up.imp fun {a b} q => Nat.ne_of_lt q) fun p m => ((hps.iff p).mp m).1]
  have ndd : ds.Nodup := hds.up.imp fun {a b} q => Nat.ne_of_lt q
  refine sm_same (ndd.filter _) (ndd.filter _) (fun d => ?_) _
  rw [List.mem_filter, List.mem_filter, decide_eq_true_iff, decide_eq_true_iff, hds.iff]
  constructor
  · rintro ⟨a, b⟩
    exact ⟨a, Nat.dvd_gcd b a, fun q hq m => (hps.iff q).mpr ⟨hq, Nat.dvd_trans m (Nat.dvd_trans (Nat.div_dvd_of_dvd (Nat.dvd_gcd b a)) (Nat.gcd_dvd_right _ _))⟩⟩
  · rintro ⟨a, b, _⟩
    exact ⟨a, Nat.dvd_trans b (Nat.gcd_dvd_left _ _)⟩
/-- how many numbers from 1 to L are in a set -/
noncomputable def cnt (S : Nat → Prop) (L : Nat) : Int := @sm (List.range L) fun k => @ite Int (S (k + 1)) (Classical.propDecidable _) 1 0
open Classical in
theorem cnt_succ (S : Nat → Prop) (L : Nat) : cnt S (L + 1) = cnt S L + if S (L + 1) then 1 else 0 := by
  unfold cnt sm
  rw [List.range_succ, List.map_append, List.sum_append, List.map_cons, List.map_nil, List.sum_cons, List.sum_nil]
  omega
theorem cnt_zero (S : Nat → Prop) : cnt S 0 = 0 := rfl
theorem cnt_congr {S R : Nat → Prop} {L : Nat} (h : ∀ x, 1 ≤ x → x ≤ L → (S x ↔ R x)) : cnt S L = cnt R L := by
  induction L with
  | zero => rfl
  | succ L ih =>
    rw [cnt_succ, cnt_succ, ih fun x a b => h x a (by omega)]
    have e := h (L + 1) (by omega) (by omega)
    by_cases z : S (L + 1)
    · rw [if_pos z, if_pos (e.mp z)]
    · rw [if_neg z, if_neg fun k => z (e.mpr k)]
theorem cnt_bound (S : Nat → Prop) (L : Nat) : 0 ≤ cnt S L ∧ cnt S L ≤ L := by
  induction L with
  | zero => exact ⟨Int.le_refl 0, Int.le_refl 0⟩
  | succ L ih =>
    rw [cnt_succ]
    by_cases z : S (L + 1)
    · rw [if_pos z]; omega
    · rw [if_neg z]; omega
theorem succ_div (L d : Nat) (d0 : 0 < d) : ((L + 1) / d : Nat) = L / d + if d ∣ L + 1 then 1 else 0 := by
  by_cases h : d ∣ L + 1
  · rw [if_pos h]
    obtain ⟨q, hq⟩ := h
    have q0 : 0 < q := Nat.pos_of_ne_zero fun e => by subst e; omega
    rw [hq, Nat.mul_div_cancel_left q d0]
    have : L / d = q - 1 := by
      apply Nat.div_eq_of_lt_le
      · rw [Nat.sub_mul, Nat.mul_comm q d]; omega
      · rw [show q - 1 + 1 = q by omega, Nat.mul_comm q d]; omega
    omega
  · rw [if_neg h, show L / d + 0 = L / d from rfl]
    have c1 : (L / d) * d = d * (L / d) := Nat.mul_comm _ _
    have c2 : (L / d + 1) * d = d * (L / d) + d := by rw [Nat.add_mul, c1, Nat.one_mul]
    have a1 := Nat.div_add_mod L d
    have a2 := Nat.mod_lt L d0
    have a3 : L % d + 1 ≠ d := fun e => h ⟨L / d + 1, by rw [Nat.mul_add]; omega⟩
    apply Nat.div_eq_of_lt_le
    · rw [c1]; omega
    · rw [c2]; omega
open Classical in
theorem wts_cnt {N : Nat} {ds ps : List Nat} (N1 : 1 ≤ N) (hds : AllDivs N ds) (hps : Primes N ps) (S : Nat → Prop) (L : Nat) :
    (sm ds fun d => wts ps (fun d => if S d then 1 else 0) d * ((L / d : Nat) : Int)) = cnt (fun z => S (Nat.gcd z N)) L := by
  induction L with
  | zero =>
    rw [cnt_zero]
    have : ∀ d ∈ ds, wts ps (fun d => if S d then 1 else 0) d * ((0 / d : Nat) : Int) = 0 := fun d _ => by rw [Nat.zero_div]; simp
    rw [sm_congr this]
    clear this hds
    induction ds with
    | nil => rfl
    | cons d l ih => rw [sm_cons, ih]; rfl
  | succ L ih =>
    rw [cnt_succ, ← ih]
    have h1 := wts_sum (x := L + 1) N1 hds hps fun d => if S d then 1 else 0
    rw [← sm_if] at h1
    have h2 : (if S (Nat.gcd (L + 1) N) then (1 : Int) else 0) = sm ds fun d => if d ∣ L + 1 then wts ps (fun d => if S d then 1 else 0) d else 0 := h1.symm
    rw [h2, ← sm_add]
    refine sm_congr fun d m => ?_
    have d0 : 0 < d := Nat.pos_of_dvd_of_pos ((hds.iff d).mp m) N1
    rw [succ_div L d d0]
    by_cases h : d ∣ L + 1
    · rw [if_pos h, if_pos h]; push_cast; rw [Int.mul_add, Int.mul_one]
    · rw [if_neg h, if_neg h]; push_cast; rw [Int.add_zero, Int.add_zero]
open Classical in
/-- some sizes more, or less -/
theorem cnt_toggle {S : Nat → Prop} {es : List Nat} (nd : es.Nodup) (e1 : ∀ z ∈ es, 1 ≤ z) (L : Nat) :
    cnt (fun z => S z ↔ ¬ z ∈ es) L = cnt S L + sm (es.filter fun z => decide (z ≤ L)) fun z => if S z then -1 else 1 := by
  induction L with
  | zero =>
    rw [cnt_zero, cnt_zero]
    have : es.filter (fun z => decide (z ≤ 0)) = [] := List.filter_eq_nil_iff.mpr fun z m k => by have := e1 z m; have := of_decide_eq_true k; omega
    rw [this]
    rfl
  | succ L ih =>
    rw [cnt_succ, cnt_succ, ih]
    have sp := sm_split (fun z => z ≤ L) (es.filter fun z => decide (z ≤ L + 1)) fun z => if S z then -1 else 1
    have f1 : (es.filter fun z => decide (z ≤ L + 1)).filter (fun z => decide (z ≤ L)) = es.filter fun z => decide (z ≤ L) := by
      rw [List.filter_filter]
      refine List.filter_congr fun z _ => ?_
      by_cases h : z ≤ L <;> simp [h] <;> omega
    rw [f1] at sp
    rw [sp]
    by_cases m : L + 1 ∈ es
    · have f2 : sm ((es.filter fun z => decide (z ≤ L + 1)).filter fun z => decide (¬ z ≤ L)) (fun z => if S z then -1 else 1) = if S (L + 1) then -1 else 1 := by
        rw [sm_same (l2 := [L + 1]) ((nd.filter _).filter _) (by simp) (fun z => ?_), sm_one]
        rw [List.mem_filter, List.mem_filter, List.mem_singleton, decide_eq_true_iff, decide_eq_true_iff]
        exact ⟨fun k => by omega, fun k => by subst k; exact ⟨⟨m, Nat.le_refl _⟩, by omega⟩⟩
      rw [f2]
      by_cases s : S (L + 1)
      · rw [if_pos s, if_pos s, if_neg fun k => (k.mp s) m]; omega
      · rw [if_neg s, if_neg s, if_pos ⟨fun k => absurd k s, fun k => absurd m k⟩]; omega
    · have f2 : ((es.filter fun z => decide (z ≤ L + 1)).filter fun z => decide (¬ z ≤ L)) = [] := List.filter_eq_nil_iff.mpr fun z k q => by
        have a := (List.mem_filter.mp k)
        have b := of_decide_eq_true a.2
        have c := of_decide_eq_true q
        have : z = L + 1 := by omega
        exact m (this ▸ a.1)
      rw [f2, sm_nil]
      by_cases s : S (L + 1)
      · rw [if_pos s, if_pos ⟨fun _ => m, fun _ => s⟩]; omega
      · rw [if_neg s, if_neg fun k => s (k.mpr m)]; omega
/-- the weights are small -/
theorem wts_small {w : Nat → Int} (h : ∀ d, (w d).natAbs ≤ 1) : ∀ ps : List Nat, ∀ d, (wts ps w d).natAbs ≤ 2 ^ ps.length := by
  intro ps
  induction ps using snoc_ind with
  | h0 => exact h
  | hs ps p ih =>
    intro d
    rw [wts_snoc, List.length_append, List.length_singleton, Nat.pow_succ]
    unfold stepW
    have a := ih d
    have b := ih (d / p)
    by_cases z : p ∣ d
    · rw [if_pos z]; omega
    · rw [if_neg z]; omega
end L3

set_option Elab.async false
set_option linter.all false
set_option maxRecDepth 100000
set_option maxHeartbeats 2000000
/-! loops over a list from its end; a name that gets a comprehension over a dict's keys. -/
namespace L3
open PySem L2 PyProof.Rows
theorem pi_revK {X : Cx} {K : PySem.W.Frag} {tg e : Expr} {ta : TA} {p pos : Pos} (hK : X.K = K) (hg : Gl X "reversed") (hm : X.mg "reversed" = none) (ha : PA X [e] ta) (hs : starEach [e] X.env = [(false, eval e X.env)] := by rfl) : PI X tg (.Call (.Name "reversed" p) [e] [] pos) (iRev K ta) := by
  subst hK
  exact pi_reversed hg hm ha hs
section
variable {K : PySem.W.Frag} {H : Hp} {σ : L2.St} {a : Addr} {xs : List V} {g : TG} {tb : TS} {ta : TA} {nx bk ct : L2.St → Hp → Prop} {rt : VK}
def ForV (K : PySem.W.Frag) (g : TG) (tb : TS) (D : Ends) (σ : L2.St) (vs : List V) (H1 : Hp) : Prop := ∃ (a : Addr) (xs : List V), vs = [.ref a] ∧ SqL K H1 a xs ∧ ∃ W : Nat → Nat → L2.St → Hp → Prop, (∃ m, W 0 m σ H1) ∧ ∀ i m σ H, W i m σ H →
  ((Itv K a xs.length).stop i H ∧ D.nx σ H) ∨ ((Itv K a xs.length).go i H ∧ ∃ N : L2.St → Hp → Prop, (∀ σ' H', N σ' H' → ∃ m', m' < m ∧ W (i + 1) m' σ' H') ∧ ∀ x H', (Itv K a xs.length).yld i H x H' → g x σ H' fun σ2 H2 => tb { D with nx := N, ct := N, bk := D.nx } σ2 H2)
theorem g_forv (h : ta σ H fun vs H1 => ForV K g tb ⟨nx, rt, bk, ct⟩ σ vs H1) : tFor (iRev K ta) g tb ⟨nx, rt, bk, ct⟩ σ H := h
theorem f_rev (Pv : Nat → L2.St → Hp → Prop) (h1 : SqL K H a xs) (h0 : Pv 0 σ H) (hl : ∀ i σ H', i ≤ xs.length → Pv i σ H' → SqL K H' a xs)
    (hs : ∀ i x σ H', i < xs.length → xs[xs.length - 1 - i]? = some x → Pv i σ H' → g x σ H' fun σ2 H2 => tb ⟨Pv (i + 1), rt, nx, Pv (i + 1)⟩ σ2 H2) (hd : ∀ σ H', Pv xs.length σ H' → nx σ H') : ForV K g tb ⟨nx, rt, bk, ct⟩ σ [.ref a] H := by
  refine ⟨a, xs, rfl, h1, fun i m σ H => m = xs.length - i ∧ i ≤ xs.length ∧ Pv i σ H, ⟨xs.length, by simp, Nat.zero_le _, h0⟩, ?_⟩
  rintro i m σ H ⟨rfl, hi, p⟩
  have q := hl i σ H hi p
  by_cases hlt : i < xs.length
  · have hx : xs[xs.length - 1 - i]? = some (xs[xs.length - 1 - i]'(by omega)) := List.getElem?_eq_getElem (by omega)
    refine .inr ⟨⟨hlt, xs, _, q, hx⟩, Pv (i + 1), fun σ' H' p' => ⟨xs.length - (i + 1), by omega, rfl, hlt, p'⟩, fun x H' y => ?_⟩
    obtain ⟨e, y⟩ := y
    subst e
    exact hs i x σ _ hlt (y xs q) p
  · have e : i = xs.length := by omega
    subst e
    exact .inl ⟨Nat.le_refl _, hd σ H p⟩
end
section
variable {H : Hp} {σ : L2.St} {d : Addr} {kvs : List (Key × V)} {i : Nat} {td te : TE} {g : TG} {tt : TT} {vs : List Nat} {nx bk ct : L2.St → Hp → Prop} {rt : VK}
theorem lock_keys (f : V → Option V) (hd : H d = some (.dK kvs)) (hz : kvs.length ≤ 100000)
    (htd : ∀ od (Q : VK), Q (.ref d) (upd H d (.frz od (.dK kvs))) → td σ (upd H d (.frz od (.dK kvs))) Q)
    (hs : ∀ od, ∀ kv ∈ kvs, ∀ H1, Same (upd H d (.frz od (.dK kvs))) H1 → ∀ R : Option V → Hp → Prop, (∀ H2, Same H1 H2 → R (f (kV kv.1)) H2) → LcT g tt te vs σ (kV kv.1) H1 R)
    (k : ∀ D H', Fr H D → Same H H' → H' D = some (.lst ((kvs.map fun kv => kV kv.1).filterMap f)) → nx (σ.set i (some (.ref D))) H') :
    tLock (tAsg (tLc (iKeys td) g tt te vs) (gName i)) ⟨nx, rt, bk, ct⟩ σ H := by
  refine ⟨d, _, hd, trivial, fun od => ?_⟩
  refine htd od _ ⟨d, od, rfl, .inl ⟨kvs, upd_same, fun D hD => ?_⟩⟩
  have Dd : D ≠ d := fun e => by rw [e, upd_same] at hD; cases hD
  have hD2 : H D = none := by rw [upd_ne Dd] at hD; exact hD
  generalize hk : (kvs.map fun kv => kV kv.1) = ks at *
  have kl : ks.length = kvs.length := by rw [← hk, List.length_map]
  refine ⟨fun j m H' => m = kvs.length - j ∧ j ≤ kvs.length ∧ Same (upd H d (.frz od (.dK kvs))) H' ∧ H' D = some (.lst ((ks.take j).filterMap f)), ⟨_, rfl, Nat.zero_le _, same_upd hD, upd_same⟩, ?_⟩
  rintro j m H1 ⟨rfl, hj, sH, eD⟩
  have frz : H1 d = some (.frz od (.dK kvs)) := sH _ _ upd_same
  by_cases lt : j < kvs.length
  · right
    refine ⟨⟨frz, lt⟩, fun H' => Same (upd H d (.frz od (.dK kvs))) H' ∧ H' D = some (.lst ((ks.take (j + 1)).filterMap f)), fun H' p => ⟨kvs.length - (j + 1), by omega, rfl, lt, p.1, p.2⟩, fun x H' y => ?_⟩
    obtain ⟨e, kk, v, hkv, ex⟩ := y
    subst e
    subst ex
    have hx : ks[j]? = some (kV kk) := by rw [← hk, List.getElem?_map, hkv]; rfl
    refine hs od (kk, v) (List.mem_of_getElem? hkv) _ sH (fun o H4 => match o with
      | some y => ∃ acc, H4 D = some (.lst acc) ∧ acc.length < sizeLine ∧ (Same (upd H d (.frz od (.dK kvs))) (upd H4 D (.lst (acc ++ [y]))) ∧ (upd H4 D (.lst (acc ++ [y]))) D = some (.lst ((ks.take (j + 1)).filterMap f)))
      | none => Same (upd H d (.frz od (.dK kvs))) H4 ∧ H4 D = some (.lst ((ks.take (j + 1)).filterMap f))) fun H2 s2 => ?_
    have tk := take_fm (f := f) hx
    have show_f : f (kV (kk, v).1) = f (kV kk) := rfl
    rw [show_f]
    cases e : f (kV kk) with
    | none =>
      rw [e] at tk
      exact ⟨sH.trans s2, by rw [tk, List.append_nil]; exact s2 _ _ eD⟩
    | some y =>
      rw [e] at tk
      refine ⟨_, s2 _ _ eD, ?_, fun b o q => ?_, by rw [upd_same, tk]⟩
      · have l1 := fm_len (f := f) (ks.take j)
        rw [List.length_take] at l1
        exact Nat.lt_of_le_of_lt (by omega : _ ≤ 100000) (by decide)
      · rw [upd_ne (ne_of_none q hD)]
        exact s2 _ _ (sH _ _ q)
  · left
    have e : j = ks.length := by omega
    subst e
    rw [List.take_length] at eD
    refine ⟨⟨frz, by omega⟩, frz, k D _ ⟨hD2⟩ (fun b o q => ?_) (by rw [upd_ne Dd]; exact eD)⟩
    by_cases bd : b = d
    · subst bd
      rw [upd_same, ← q, hd]
    · rw [upd_ne bd]
      exact sH _ _ (by rw [upd_ne bd]; exact q)
end
end L3

set_option Elab.async false
set_option linter.all false
set_option maxRecDepth 100000
set_option maxHeartbeats 2000000
/-! counting by inclusion and exclusion. -/
namespace L3
open PySem L2 PyProof.Rows
theorem cnt_split (A B : Nat → Prop) (L : Nat) : cnt A L = cnt (fun x => A x ∧ B x) L + cnt (fun x => A x ∧ ¬ B x) L := by
  induction L with
  | zero => rfl
  | succ L ih =>
    rw [cnt_succ, cnt_succ, cnt_succ, ih]
    by_cases a : A (L + 1) <;> by_cases b : B (L + 1) <;> simp [a, b] <;> omega
theorem cnt_none (A : Nat → Prop) (h : ∀ x, ¬ A x) (L : Nat) : cnt A L = 0 := by
  induction L with
  | zero => rfl
  | succ L ih => rw [cnt_succ, ih, if_neg (h _)]; rfl
theorem cnt_mult (B : Nat → Prop) (d : Nat) (d0 : 0 < d) (L : Nat) : cnt (fun z => d ∣ z ∧ B (z / d)) L = cnt B (L / d) := by
  induction L with
  | zero => rw [Nat.zero_div]; rfl
  | succ L ih =>
    rw [cnt_succ, ih, succ_div L d d0]
    by_cases h : d ∣ L + 1
    · rw [if_pos h, cnt_succ]
      by_cases b : B (L / d + 1)
      · rw [if_pos ⟨h, b⟩, if_pos b]
      · rw [if_neg fun k => b k.2, if_neg b]
    · rw [if_neg h, if_neg fun k => h k.1, Nat.add_zero]; omega
/-- sums of quotients -/
def quo (l : List Nat) (L : Nat) : Int := sm l fun t => ((L / t : Nat) : Int)
theorem quo_app (a b : List Nat) (L : Nat) : quo (a ++ b) L = quo a L + quo b L := by
  unfold quo sm
  rw [List.map_append, List.sum_append]
theorem quo_mul (l : List Nat) (p L : Nat) : quo (l.map (p * ·)) L = quo l (L / p) := by
  unfold quo
  rw [sm_map]
  refine sm_congr fun t _ => ?_
  rw [Nat.div_div_eq_div_mul]
/-- those that have none of some primes, by inclusion and exclusion -/
def Incl (us P M : List Nat) : Prop := ∀ L, quo P L - quo M L = cnt (fun x => ∀ p ∈ us, ¬ p ∣ x) L
theorem cnt_all (L : Nat) : cnt (fun _ => True) L = L := by
  induction L with
  | zero => rfl
  | succ L ih => rw [cnt_succ, ih, if_pos trivial]; push_cast; rfl
theorem Incl.start : Incl [] [1] [] := fun L => by
  have e : cnt (fun x => ∀ p ∈ ([] : List Nat), ¬ p ∣ x) L = L := (cnt_congr fun x _ _ => ⟨fun _ => trivial, fun _ p m => absurd m List.not_mem_nil⟩).trans (cnt_all L)
  rw [e]
  unfold quo
  rw [sm_one, sm_nil, Nat.div_one]
  omega
theorem Incl.step {us P M : List Nat} {p : Nat} (h : Incl us P M) (hp : Pr p) (hu : ∀ u ∈ us, Pr u) (n : p ∉ us) : Incl (us ++ [p]) (P ++ M.map (p * ·)) (M ++ P.map (p * ·)) := fun L => by
  have p0 : 0 < p := by have := hp.1; omega
  rw [quo_app, quo_app, quo_mul, quo_mul]
  have h1 := h L
  have h2 := h (L / p)
  have s := cnt_split (fun x => ∀ q ∈ us, ¬ q ∣ x) (fun x => p ∣ x) L
  have m : cnt (fun x => (∀ q ∈ us, ¬ q ∣ x) ∧ p ∣ x) L = cnt (fun x => ∀ q ∈ us, ¬ q ∣ x) (L / p) := by
    rw [← cnt_mult _ p p0 L]
    refine cnt_congr fun x x1 _ => ⟨fun k => ⟨k.2, fun q mq z => k.1 q mq (Nat.dvd_trans z (Nat.div_dvd_of_dvd k.2))⟩, fun k => ⟨fun q mq z => ?_, k.1⟩⟩
    obtain ⟨y, rfl⟩ := k.1
    have k2 := k.2 q mq
    rw [Nat.mul_div_cancel_left y p0] at k2
    rcases (hu q mq).dvd_mul z with z | z
    · exact n ((hu q mq).eq hp z ▸ mq)
    · exact k2 z
  have c : cnt (fun x => ∀ q ∈ us ++ [p], ¬ q ∣ x) L = cnt (fun x => (∀ q ∈ us, ¬ q ∣ x) ∧ ¬ p ∣ x) L :=
    cnt_congr fun x _ _ => ⟨fun k => ⟨fun q mq => k q (List.mem_append_left _ mq), k p (List.mem_append_right _ (List.mem_singleton.mpr rfl))⟩, fun k q mq => (List.mem_append.mp mq).elim (k.1 q) fun e => by rw [List.mem_singleton.mp e]; exact k.2⟩
  rw [c]
  omega
/-- the class of one divisor -/
theorem cnt_class {n d : Nat} {us : List Nat} (n1 : 1 ≤ n) (dn : d ∣ n) (hu : ∀ p, p ∈ us ↔ Pr p ∧ p ∣ n / d) (L : Nat) : cnt (fun z => Nat.gcd z n = d) L = cnt (fun x => ∀ p ∈ us, ¬ p ∣ x) (L / d) := by
  have d0 : 0 < d := Nat.pos_of_dvd_of_pos dn n1
  rw [← cnt_mult _ d d0 L]
  obtain ⟨e, rfl⟩ := dn
  rw [Nat.mul_div_cancel_left e d0] at hu
  refine cnt_congr fun z z1 _ => ?_
  constructor
  · intro g
    have dz : d ∣ z := g ▸ Nat.gcd_dvd_left _ _
    obtain ⟨y, rfl⟩ := dz
    rw [Nat.gcd_mul_left] at g
    have g1 : Nat.gcd y e = 1 := Nat.eq_of_mul_eq_mul_left d0 (by rw [g, Nat.mul_one])
    refine ⟨Nat.dvd_mul_right _ _, fun p mp z2 => ?_⟩
    rw [Nat.mul_div_cancel_left y d0] at z2
    obtain ⟨hp, pe⟩ := (hu p).mp mp
    have := Nat.le_of_dvd (by decide) (g1 ▸ Nat.dvd_gcd z2 pe)
    have := hp.1
    omega
  · rintro ⟨⟨y, rfl⟩, k⟩
    rw [Nat.mul_div_cancel_left y d0] at k
    rw [Nat.gcd_mul_left]
    have g1 : Nat.gcd y e = 1 := by
      apply Classical.byContradiction
      intro w
      have e0 : 0 < e := Nat.pos_of_ne_zero fun q => by subst q; omega
      have g0 : 0 < Nat.gcd y e := Nat.gcd_pos_of_pos_right _ e0
      obtain ⟨p, hp, pm⟩ := pr_ex (Nat.gcd y e) (by omega)
      exact k p ((hu p).mpr ⟨hp, Nat.dvd_trans pm (Nat.gcd_dvd_right _ _)⟩) (Nat.dvd_trans pm (Nat.gcd_dvd_left _ _))
    rw [g1, Nat.mul_one]
theorem cnt_more {f : Nat → Nat} {ds : List Nat} {d : Nat} (n : d ∉ ds) (L : Nat) : cnt (fun z => f z ∈ ds ++ [d]) L = cnt (fun z => f z ∈ ds) L + cnt (fun z => f z = d) L := by
  have s := cnt_split (fun z => f z ∈ ds ++ [d]) (fun z => f z ∈ ds) L
  rw [s]
  congr 1
  · exact cnt_congr fun z _ _ => ⟨fun k => k.2, fun k => ⟨List.mem_append_left _ k, k⟩⟩
  · exact cnt_congr fun z _ _ => ⟨fun k => (List.mem_append.mp k.1).elim (fun q => absurd q k.2) List.mem_singleton.mp, fun k => ⟨List.mem_append_right _ (List.mem_singleton.mpr k), fun q => n (k ▸ q)⟩⟩
end L3

set_option Elab.async false
set_option linter.all false
set_option maxRecDepth 100000
set_option maxHeartbeats 2000000
/-! one of a list of ints taken out. -/
namespace L3
open PySem L2 PyProof.Rows
theorem eraseIdx_ints (ls : List Int) : ∀ r : Nat, (ls.map V.int).eraseIdx r = (ls.eraseIdx r).map V.int := by
  induction ls with
  | nil => intro r; rfl
  | cons a ls ih =>
    intro r
    cases r with
    | zero => rfl
    | succ r => rw [List.map_cons, List.eraseIdx_cons_succ, ih, List.eraseIdx_cons_succ, List.map_cons]
theorem pop_at {l : Addr} {ls : List Int} {r : Int} {H : Hp} {Q : VK} (h1 : H l = some (.lst (ls.map V.int))) (h0 : 0 ≤ r) (hr : r < ls.length) (hz : ls.length ≤ 100000) (k : ∀ (z : Int) (ls2 : List Int) H', z ∈ ls → (∀ y ∈ ls2, y ∈ ls) → ls2.length + 1 = ls.length → SB l H H' → H' l = some (.lst (ls2.map V.int)) → Q (.int z) H') : rPopAt (.ref l) [.int r] H Q := by
  obtain ⟨n, rfl⟩ : ∃ n : Nat, r = (n : Int) := ⟨r.toNat, by omega⟩
  have hk : n < ls.length := by omega
  have hv : (ls.map V.int)[n]? = some (.int ls[n]) := by rw [List.getElem?_map, List.getElem?_eq_getElem hk]; rfl
  obtain ⟨j, g1, g2, g3, _, _⟩ := atI_get (atI_nat hv)
  refine ⟨l, _, n, j, .int (ls[n]), rfl, rfl, h1, by omega, by omega, g1, g2, ?_⟩
  rw [List.length_map] at g3
  rw [eraseIdx_ints]
  exact k _ _ _ (List.getElem_mem hk) (fun y m => List.mem_of_mem_eraseIdx m) (by rw [List.length_eraseIdx_of_lt g3]; omega) sb_upd upd_same
end L3

set_option Elab.async false
set_option linter.all false
set_option maxRecDepth 100000
set_option maxHeartbeats 2000000
/-! sizes by their number: counting never falls, and each period counts. -/
namespace L3
open PySem L2 PyProof.Rows
theorem cnt_mono (S : Nat → Prop) {a b : Nat} (h : a ≤ b) : cnt S a ≤ cnt S b := by
  induction h with
  | refl => exact Int.le_refl _
  | step h ih =>
    rw [cnt_succ]
    split <;> omega
theorem cnt_hit {S : Nat → Prop} {a b z : Nat} (s : S z) (h1 : a < z) (h2 : z ≤ b) : cnt S a + 1 ≤ cnt S b := by
  obtain ⟨y, rfl⟩ : ∃ y, z = y + 1 := ⟨z - 1, by omega⟩
  have e := cnt_succ S y
  rw [if_pos s] at e
  have m1 := cnt_mono S (show a ≤ y by omega)
  have m2 := cnt_mono S h2
  omega
theorem cnt_imp {A B : Nat → Prop} (h : ∀ x, 1 ≤ x → A x → B x) (L : Nat) : cnt A L ≤ cnt B L := by
  induction L with
  | zero => exact Int.le_refl _
  | succ L ih =>
    rw [cnt_succ, cnt_succ]
    by_cases a : A (L + 1)
    · rw [if_pos a, if_pos (h _ (by omega) a)]; omega
    · rw [if_neg a]; split <;> omega
theorem cnt_or (A B : Nat → Prop) (L : Nat) : cnt (fun x => A x ∨ B x) L ≤ cnt A L + cnt B L := by
  induction L with
  | zero => exact Int.le_refl _
  | succ L ih =>
    rw [cnt_succ, cnt_succ, cnt_succ]
    by_cases a : A (L + 1) <;> by_cases b : B (L + 1) <;> simp [a, b] <;> omega
theorem cnt_one (a L : Nat) : cnt (fun x => x = a) L ≤ 1 ∧ (L < a → cnt (fun x => x = a) L = 0) := by
  induction L with
  | zero => exact ⟨by rw [cnt_zero]; decide, fun _ => cnt_zero _⟩
  | succ L ih =>
    rw [cnt_succ]
    by_cases e : L + 1 = a
    · rw [if_pos e, ih.2 (by omega)]
      exact ⟨by omega, fun _ => by omega⟩
    · rw [if_neg e]
      exact ⟨by omega, fun h => by rw [ih.2 (by omega)]; rfl⟩
theorem cnt_mem (es : List Nat) (L : Nat) : cnt (fun x => x ∈ es) L ≤ es.length := by
  induction es with
  | nil => rw [cnt_none _ (fun x => List.not_mem_nil)]; exact Int.le_refl _
  | cons e es ih =>
    have h1 := cnt_imp (A := fun x => x ∈ e :: es) (B := fun x => x = e ∨ x ∈ es) (fun x _ m => List.mem_cons.mp m) L
    have h2 := cnt_or (fun x => x = e) (fun x => x ∈ es) L
    have h3 := (cnt_one e L).1
    rw [List.length_cons]
    omega
theorem cnt_flip {A B : Nat → Prop} {es : List Nat} (h : ∀ x, 1 ≤ x → A x → B x ∨ x ∈ es) (L : Nat) : cnt A L ≤ cnt B L + es.length := by
  have h1 := cnt_imp (B := fun x => B x ∨ x ∈ es) h L
  have h2 := cnt_or B (fun x => x ∈ es) L
  have h3 := cnt_mem es L
  omega
theorem cnt_period {N d : Nat} {cs : List Nat} (N1 : 1 ≤ N) (dc : d ∈ cs) (dN : d ∣ N) (m : Nat) : (m : Int) ≤ cnt (fun z => Nat.gcd z N ∈ cs) (N * m) := by
  have d1 := Nat.pos_of_dvd_of_pos dN N1
  have dl := Nat.le_of_dvd N1 dN
  induction m with
  | zero => exact (cnt_bound _ _).1
  | succ m ih =>
    have g : Nat.gcd (N * m + d) N = d := by
      apply Nat.dvd_antisymm
      · have a1 := Nat.gcd_dvd_left (N * m + d) N
        have a2 := Nat.gcd_dvd_right (N * m + d) N
        exact (Nat.dvd_add_right (Nat.dvd_trans a2 (Nat.dvd_mul_right N m))).mp a1
      · exact Nat.dvd_gcd (Nat.dvd_add (Nat.dvd_trans dN (Nat.dvd_mul_right N m)) (Nat.dvd_refl d)) dN
    have s : Nat.gcd (N * m + d) N ∈ cs := by rw [g]; exact dc
    have := cnt_hit (S := fun z => Nat.gcd z N ∈ cs) (a := N * m) (b := N * (m + 1)) (z := N * m + d) s (by omega) (by rw [Nat.mul_succ]; omega)
    omega
/-- where the search ends -/
theorem cnt_at {S : Nat → Prop} {l : Nat} {k : Int} (l1 : 1 ≤ l) (h1 : cnt S (l - 1) ≤ k) (h2 : k < cnt S l) : S l ∧ cnt S l = k + 1 := by
  obtain ⟨y, rfl⟩ : ∃ y, l = y + 1 := ⟨l - 1, by omega⟩
  have e := cnt_succ S y
  rw [show y + 1 - 1 = y from rfl] at h1
  by_cases s : S (y + 1)
  · rw [if_pos s] at e
    exact ⟨s, by omega⟩
  · rw [if_neg s] at e
    omega
theorem cnt_eq {a z : Nat} (a1 : 1 ≤ a) (h : a ≤ z) : cnt (fun x => x = a) z = 1 := by
  have h1 := (cnt_one a z).1
  have h2 := cnt_hit (S := fun x => x = a) (a := 0) (b := z) rfl (show 0 < a by omega) h
  rw [cnt_zero] at h2
  omega
/-- an ascending list's item is the size of its number -/
theorem cnt_rank : ∀ {es : List Nat} {i z : Nat}, es.Pairwise (· < ·) → (∀ x ∈ es, 1 ≤ x) → es[i]? = some z → cnt (fun x => x ∈ es) z = i + 1
  | [], i, z, _, _, h => by simp at h
  | a :: t, i, z, up, ep, h => by
    have a1 := ep a (List.mem_cons_self ..)
    have lt := (List.pairwise_cons.mp up).1
    have na : a ∉ t := fun m => Nat.lt_irrefl _ (lt a m)
    have e1 : cnt (fun x => x ∈ a :: t) z = cnt (fun x => x = a) z + cnt (fun x => x ∈ t) z := by
      rw [cnt_split (fun x => x ∈ a :: t) (fun x => x = a)]
      congr 1
      · exact cnt_congr fun x _ _ => ⟨fun q => q.2, fun q => ⟨by rw [q]; exact List.mem_cons_self .., q⟩⟩
      · exact cnt_congr fun x _ _ => ⟨fun q => (List.mem_cons.mp q.1).resolve_left q.2, fun q => ⟨List.mem_cons_of_mem _ q, fun w => na (w ▸ q)⟩⟩
    rw [e1]
    cases i with
    | zero =>
      obtain rfl : a = z := Option.some.inj h
      have e2 : cnt (fun x => x ∈ t) a = 0 := by
        rw [cnt_congr (R := fun _ => False) fun x _ xa => ⟨fun m => absurd (lt x m) (by omega), fun q => q.elim⟩]
        exact cnt_none _ (fun _ q => q) _
      rw [cnt_eq a1 (Nat.le_refl _), e2]
      rfl
    | succ i =>
      rw [List.getElem?_cons_succ] at h
      have ih := cnt_rank (List.pairwise_cons.mp up).2 (fun x m => ep x (List.mem_cons_of_mem _ m)) h
      have := lt z (List.mem_of_getElem? h)
      rw [cnt_eq a1 (by omega), ih]
      omega
/-- len of a dict -/
def rLenD : List V → Hp → VK → Prop := fun xs H Q => ∃ (a : Addr) (kvs : _), xs = [V.ref a] ∧ H a = some (.dK kvs) ∧ Q (.int kvs.length) H
theorem c_lenD {X : Cx} : CallR X (.builtin "len") rLenD := call_lenD
end L3

set_option Elab.async false
set_option linter.all false
set_option maxRecDepth 100000
set_option maxHeartbeats 2000000
/-! how many unlike ones a list of numbers has. -/
namespace L3
open PySem L2 PyProof.Rows
theorem dd_mem (ns : List Int) : ∀ (σ : List Int) (x : Int), x ∈ ns.foldl step_dedup σ ↔ x ∈ σ ∨ x ∈ ns := by
  induction ns with
  | nil => intro σ x; simp
  | cons y r ih =>
    intro σ x
    rw [List.foldl_cons, ih, sd_in]
    by_cases h : y ∈ σ
    · rw [if_pos h, List.mem_cons]
      exact ⟨fun q => q.elim .inl fun q => .inr (.inr q), fun q => q.elim .inl fun q => q.elim (fun e => .inl (e ▸ h)) .inr⟩
    · rw [if_neg h, List.mem_append, List.mem_singleton, List.mem_cons, or_assoc]
theorem dd_nodup (ns : List Int) : ∀ σ : List Int, σ.Nodup → (ns.foldl step_dedup σ).Nodup := by
  induction ns with
  | nil => intro σ h; exact h
  | cons y r ih =>
    intro σ h
    rw [List.foldl_cons, sd_in]
    refine ih _ ?_
    by_cases z : y ∈ σ
    · rw [if_pos z]; exact h
    · rw [if_neg z, List.nodup_append]
      exact ⟨h, List.pairwise_singleton _ y, fun a ha b hb e => z (by rw [← List.mem_singleton.mp hb, ← e]; exact ha)⟩
theorem dd_card {xs es : List Nat} (u : es.Pairwise (· < ·)) (m : ∀ z, z ∈ es ↔ z ∈ xs) : (dd (xs.map fun d : Nat => (d : Int))).length = es.length := by
  have n1 : (dd (xs.map fun d : Nat => (d : Int))).Nodup := dd_nodup _ [] List.nodup_nil
  have n2 : (es.map fun d : Nat => (d : Int)).Nodup := by
    refine List.pairwise_map.mpr (u.imp fun {a b} q e => ?_)
    have := Int.ofNat.inj e
    omega
  have mm : ∀ x, x ∈ dd (xs.map fun d : Nat => (d : Int)) ↔ x ∈ es.map fun d : Nat => (d : Int) := fun x => by
    rw [show dd (xs.map fun d : Nat => (d : Int)) = (xs.map fun d : Nat => (d : Int)).foldl step_dedup [] from rfl, dd_mem]
    constructor
    · rintro (q | q)
      · cases q
      · obtain ⟨d, hd, rfl⟩ := List.mem_map.mp q
        exact List.mem_map.mpr ⟨d, (m d).mpr hd, rfl⟩
    · intro q
      obtain ⟨d, hd, rfl⟩ := List.mem_map.mp q
      exact .inr (List.mem_map.mpr ⟨d, (m d).mp hd, rfl⟩)
  have a := n1.length_le_of_subset fun x q => (mm x).mp q
  have b := n2.length_le_of_subset fun x q => (mm x).mpr q
  rw [List.length_map] at a b
  omega
end L3

set_option Elab.async false
set_option linter.all false
set_option maxRecDepth 100000
set_option maxHeartbeats 2000000
/-! comprehensions whose items are new objects, made while tracked lists change. -/
namespace L3
open PySem L2 PyProof.Rows
section
variable {K : PySem.W.Frag} {H : Hp} {Q : VK} {g : TG} {tt : TT} {te : TE} {vs : List Nat} {σ : L2.St} {a : Addr} {xs : List V}
theorem lcl_ao (Pv : Nat → List V → Hp → Prop) (h1 : SqL K H a xs) (hz : xs.length ≤ 100000) (h0 : Pv 0 [] H)
    (sq : ∀ i acc H1, Pv i acc H1 → SqL K H1 a xs)
    (fr : ∀ D, H D = none → ∀ i acc H1 H2, SB D H1 H2 → ((i = 0 ∧ acc = []) ∨ ∃ ys, H1 D = some (.lst ys)) → Pv i acc H1 → Pv i acc H2)
    (hs : ∀ (i : Nat) x acc H1, xs[i]? = some x → acc.length ≤ i → Pv i acc H1 → ∀ Z : Option V → Hp → Prop,
      (∀ y H4, (∀ a u, H a = none → H1 a = some u → H4 a = some u) → Pv (i + 1) (acc ++ [y]) H4 → Z (some y) H4) →
      (∀ H4, (∀ a u, H a = none → H1 a = some u → H4 a = some u) → Pv (i + 1) acc H4 → Z none H4) → LcT g tt te vs σ x H1 Z)
    (k : ∀ D acc H', Fr H D → acc.length ≤ xs.length → Pv xs.length acc H' → H' D = some (.lst acc) → Q (.ref D) H') : LcL K g tt te vs σ (.ref a) H Q := by
  refine ⟨a, rfl, ⟨xs, h1⟩, fun D hD => lc_list (xs := xs) (fun i H' => ∃ acc, acc.length ≤ i ∧ i ≤ xs.length ∧ Pv i acc H' ∧ H' D = some (.lst acc)) ⟨[], Nat.le_refl _, Nat.zero_le _, fr D hD _ _ _ _ sb_upd (.inl ⟨rfl, rfl⟩) h0, upd_same⟩ (fun i H' _ ⟨acc, _, _, p, _⟩ => sq _ _ _ p) ?_ ?_⟩
  · rintro i x H1 hx ⟨acc, al, il, pv, eD⟩
    have hlt : i < xs.length := (List.getElem?_eq_some_iff.mp hx).1
    refine hs i x acc H1 hx al pv (fun o H4 => match o with
      | some y => ∃ ac, H4 D = some (.lst ac) ∧ ac.length < sizeLine ∧ ∃ acc', acc'.length ≤ i + 1 ∧ i + 1 ≤ xs.length ∧ Pv (i + 1) acc' (upd H4 D (.lst (ac ++ [y]))) ∧ (upd H4 D (.lst (ac ++ [y]))) D = some (.lst acc')
      | none => ∃ acc', acc'.length ≤ i + 1 ∧ i + 1 ≤ xs.length ∧ Pv (i + 1) acc' H4 ∧ H4 D = some (.lst acc')) (fun y H4 keep pv4 => ?_) (fun H4 keep pv4 => ?_)
    · refine ⟨acc, keep D _ hD eD, ?_, acc ++ [y], by rw [List.length_append]; simp only [List.length_singleton]; omega, hlt, fr D hD _ _ _ _ sb_upd (.inr ⟨_, keep D _ hD eD⟩) pv4, upd_same⟩
      exact Nat.lt_of_le_of_lt (by omega : _ ≤ 100000) (by decide)
    · exact ⟨acc, by omega, hlt, pv4, keep D _ hD eD⟩
  · rintro H1 ⟨acc, al, _, pv, eD⟩
    exact k D acc H1 ⟨hD⟩ al pv eD
end
/-- a list of tuples of two numbers, by their addresses -/
structure PrA (H : Hp) (as : List Addr) (qs : List (Nat × Nat)) : Prop where
  len : as.length = qs.length
  at_ : ∀ (i : Nat) (a : Addr) (q : Nat × Nat), as[i]? = some a → qs[i]? = some q → H a = some (.tup [.int (q.1 : Int), .int (q.2 : Int)])
theorem PrA.nil {H : Hp} : PrA H [] [] := ⟨rfl, fun j a q e => by simp at e⟩
theorem PrA.tup {H : Hp} {as : List Addr} {qs : List (Nat × Nat)} (h : PrA H as qs) {a : Addr} (m : a ∈ as) : ∃ q : Nat × Nat, H a = some (.tup [.int (q.1 : Int), .int (q.2 : Int)]) := by
  obtain ⟨i, hi⟩ := List.mem_iff_getElem?.mp m
  have il := (List.getElem?_eq_some_iff.mp hi).1
  rw [h.len] at il
  exact ⟨qs[i], h.at_ i a _ hi (by simp [il])⟩
theorem PrA.sb {H H' : Hp} {as : List Addr} {qs : List (Nat × Nat)} {D : Addr} (h : PrA H as qs) (s : SB D H H') {xs : List V} (hD : H D = some (.lst xs)) : PrA H' as qs :=
  ⟨h.len, fun i a q e1 e2 => s _ _ (fun e => by have z := h.at_ i a q e1 e2; rw [e, hD] at z; cases z) (h.at_ i a q e1 e2)⟩
theorem PrA.same {H H' : Hp} {as : List Addr} {qs : List (Nat × Nat)} (h : PrA H as qs) (s : Same H H') : PrA H' as qs := ⟨h.len, fun i a q e1 e2 => s _ _ (h.at_ i a q e1 e2)⟩
theorem PrA.snoc {H : Hp} {as : List Addr} {qs : List (Nat × Nat)} {a : Addr} {q : Nat × Nat} (h : PrA H as qs) (e : H a = some (.tup [.int (q.1 : Int), .int (q.2 : Int)])) : PrA H (as ++ [a]) (qs ++ [q]) := by
  refine ⟨by rw [List.length_append, List.length_append, h.len]; rfl, fun i b r e1 e2 => ?_⟩
  rcases Nat.lt_or_ge i as.length with z | z
  · rw [List.getElem?_append_left z] at e1
    rw [List.getElem?_append_left (h.len ▸ z)] at e2
    exact h.at_ i b r e1 e2
  · rw [List.getElem?_append_right z] at e1
    rw [List.getElem?_append_right (h.len ▸ z), ← h.len] at e2
    have i0 : i - as.length = 0 := by
      apply Classical.byContradiction
      intro w
      rw [List.getElem?_eq_none (by simp only [List.length_singleton]; omega)] at e1
      cases e1
    rw [i0] at e1 e2
    obtain rfl := Option.some.inj e1
    obtain rfl := Option.some.inj e2
    exact e
end L3

set_option Elab.async false
set_option linter.all false
set_option maxRecDepth 100000
set_option maxHeartbeats 2000000
/-! one of a list of numbers taken out, told by a permutation; products of unlike primes. -/
namespace L3
open PySem L2 PyProof.Rows
theorem eraseIdx_nats (ls : List Nat) : ∀ r : Nat, (ls.map fun d : Nat => V.int (d : Int)).eraseIdx r = (ls.eraseIdx r).map fun d : Nat => V.int (d : Int) := by
  induction ls with
  | nil => intro r; rfl
  | cons a ls ih =>
    intro r
    cases r with
    | zero => rfl
    | succ r => rw [List.map_cons, List.eraseIdx_cons_succ, ih, List.eraseIdx_cons_succ, List.map_cons]
theorem erase_perm : ∀ (ls : List Nat) (j : Nat) (h : j < ls.length), (ls[j] :: ls.eraseIdx j).Perm ls
  | a :: ls, 0, _ => List.Perm.refl _
  | a :: ls, j + 1, h => by
    rw [List.getElem_cons_succ, List.eraseIdx_cons_succ]
    exact (List.Perm.swap a _ _).trans ((erase_perm ls j (Nat.lt_of_succ_lt_succ h)).cons a)
theorem pop_atN {l : Addr} {ls : List Nat} {r : Int} {H : Hp} {Q : VK} (h1 : H l = some (.lst (ls.map fun d : Nat => V.int (d : Int)))) (h0 : 0 ≤ r) (hr : r < ls.length) (hz : ls.length ≤ 100000) (k : ∀ (z : Nat) (ls2 : List Nat) H', (z :: ls2).Perm ls → SB l H H' → H' l = some (.lst (ls2.map fun d : Nat => V.int (d : Int))) → Q (.int (z : Int)) H') : rPopAt (.ref l) [.int r] H Q := by
  obtain ⟨n, rfl⟩ : ∃ n : Nat, r = (n : Int) := ⟨r.toNat, by omega⟩
  have hk : n < ls.length := by omega
  have hv : (ls.map fun d : Nat => V.int (d : Int))[n]? = some (.int ((ls[n] : Nat) : Int)) := by rw [List.getElem?_map, List.getElem?_eq_getElem hk]; rfl
  obtain ⟨j, g1, g2, g3, _, _⟩ := atI_get (atI_nat hv)
  refine ⟨l, _, n, j, .int ((ls[n] : Nat) : Int), rfl, rfl, h1, by omega, by omega, g1, g2, ?_⟩
  rw [List.length_map] at g3
  have e : ls[j] = ls[n] := by
    rw [List.getElem?_map, List.getElem?_eq_getElem g3] at g2
    have := Option.some.inj g2
    exact Int.ofNat.inj (V.int.inj this)
  rw [eraseIdx_nats]
  refine k _ _ _ ?_ sb_upd upd_same
  rw [← e]
  exact erase_perm ls j g3
end L3


set_option maxHeartbeats 40000000
namespace Law
open PySem L2 L3 PyProof.Rows
/-! ### tactics -/
-- H a = some ?o
local macro_rules | `(tactic| show "hp") => `(tactic| first
  | assumption
  | (((with_reducible refine' tr_same ?s1 ?nxt); (case s1 => (assumption)); (case' nxt => skip)); show "hp")
  | (((with_reducible refine' tr_but ?s1 ?n ?h); (case s1 => (assumption))); (case h => show "hp"); (case n => show "ne")))
-- a ≠ p
local macro_rules | `(tactic| show "ne") => `(tactic| first
  | assumption
  | ((with_reducible refine Ne.symm ?_); assumption)
  | ((with_reducible refine' ne_new ?s1 ?h); (case s1 => assumption); (case h => show "hp"))
  | ((with_reducible refine' ne_new' ?s1 ?h); (case s1 => assumption); (case h => show "hp")))
-- Sz ?n i
local macro_rules | `(tactic| show "sz") => `(tactic| first
  | assumption
  | ((with_reducible refine' Sz.mul ?s1 ?s2); (case s1 => (show "sz")); (case s2 => (show "sz")))
  | ((with_reducible refine' Sz.add ?s1 ?s2); (case s1 => (show "sz")); (case s2 => (show "sz")))
  | ((with_reducible refine' Sz.sub ?s1 ?s2); (case s1 => (show "sz")); (case s2 => (show "sz")))
  | ((with_reducible refine' Sz.neg ?s1); (case s1 => (show "sz")))
  | ((with_reducible refine' Sz.mod ?s1 ?s2); (case s1 => (omega)); (case s2 => (show "sz")))
  | ((with_reducible refine' Sz.div ?s1 ?s2 ?s3); (case s1 => (omega)); (case s2 => (omega)); (case s3 => (show "sz")))
  | ((with_reducible refine' (Sz.mk ?s1 : Sz 300 _)); (case s1 => (omega))))
local macro_rules | `(tactic| show "mulok") => `(tactic| first
  | assumption
  | ((with_reducible refine mul_okl ?_); omega)
  | ((with_reducible refine mul_okr ?_); omega)
  | ((with_reducible refine' mul_ok ?s1 ?s2 ?s3); (case s1 => (show "sz")); (case s2 => (show "sz")); (case s3 => (decide))))
local macro_rules | `(tactic| show "divok") => `(tactic| first
  | assumption
  | ((with_reducible refine' div_ok ?s1 ?s2 ?s3); (case s1 => (omega)); (case s2 => (show "sz")); (case s3 => (decide))))
-- SqL K H a ?xs
local macro_rules | `(tactic| show "hq") => `(tactic| first
  | assumption
  | ((with_reducible refine' SqL.of ?s1); (case s1 => (show "hp")))
  | (((with_reducible refine' Same.seq ?s1 ?nxt); (case s1 => (assumption)); (case' nxt => skip)); show "hq"))
local macro_rules | `(tactic| show "flen") => `(tactic| first | (show (0 : Nat) < 1000; decide) | (rw [← Nat.succ_le_iff]; exact Nat.le_of_ble_eq_true rfl) | ((with_reducible refine' Nat.lt_of_le_of_lt (length_putF _ _ _) ?s1); (case s1 => (show "flen2"))))
local macro_rules | `(tactic| show "flen2") => `(tactic| first | (show _ + 1 < 1000; simp only [List.length_nil]; omega) | ((with_reducible refine Nat.lt_of_le_of_lt (Nat.succ_le_succ (length_putF _ _ _)) ?_); simp only [List.length_nil]; omega) | ((with_reducible refine Nat.lt_of_le_of_lt (Nat.succ_le_succ (Nat.le_trans (length_putF _ _ _) (Nat.succ_le_succ (length_putF _ _ _)))) ?_); simp only [List.length_nil]; omega))
local macro_rules | `(tactic| show "len") => `(tactic| first
  | exact Nat.le_of_ble_eq_true rfl
  | (simp only [List.length_append, List.length_cons, List.length_nil, List.length_map] at *; omega)
  | omega)
-- a condition that the facts decide
local macro_rules | `(tactic| show "yes") => `(tactic| first | assumption | rfl | omega | exact ⟨rfl, rfl, rfl⟩)
local macro_rules | `(tactic| show "no") => `(tactic| first | assumption | omega | (intro q; cases q; done))
local macro_rules | `(tactic| show "if") => `(tactic| first
  | (with_reducible refine ifs_T ?_)
  | (with_reducible refine ifs_F ?_)
  | ((with_reducible refine ifs_not ?_); show "if")
  | ((with_reducible refine' ifs_y ?s1 ?nxt); (case s1 => (show "yes")); (case' nxt => skip))
  | ((with_reducible refine' ifs_n ?s1 ?nxt); (case s1 => (show "no")); (case' nxt => skip)))
local macro_rules | `(tactic| show "andr") => `(tactic| first
  | (with_reducible refine and_T ?_)
  | (with_reducible refine and_F ?_)
  | ((with_reducible refine' and_y ?s1 ?nxt); (case s1 => (show "yes")); (case' nxt => skip))
  | ((with_reducible refine' and_n ?s1 ?nxt); (case s1 => (show "no")); (case' nxt => skip))
  | ((with_reducible refine' and_ny ?s1 ?nxt); (case s1 => (show "yes")); (case' nxt => skip))
  | ((with_reducible refine' and_nn ?s1 ?nxt); (case s1 => (show "no")); (case' nxt => skip)))
local macro_rules | `(tactic| show "orr") => `(tactic| first
  | (with_reducible refine or_T ?_)
  | (with_reducible refine or_F ?_)
  | ((with_reducible refine' or_y ?s1 ?nxt); (case s1 => (show "yes")); (case' nxt => skip))
  | ((with_reducible refine' or_n ?s1 ?nxt); (case s1 => (show "no")); (case' nxt => skip))
  | ((with_reducible refine' or_ny ?s1 ?nxt); (case s1 => (show "yes")); (case' nxt => skip))
  | ((with_reducible refine' or_nn ?s1 ?nxt); (case s1 => (show "no")); (case' nxt => skip)))
local macro_rules | `(tactic| show "notr") => `(tactic| first
  | (with_reducible refine not_T ?_)
  | (with_reducible refine not_F ?_)
  | ((with_reducible refine' not_y ?s1 ?nxt); (case s1 => (show "yes")); (case' nxt => skip))
  | ((with_reducible refine' not_n ?s1 ?nxt); (case s1 => (show "no")); (case' nxt => skip))
  | ((with_reducible refine' not_ny ?s1 ?nxt); (case s1 => (show "yes")); (case' nxt => skip))
  | ((with_reducible refine' not_nn ?s1 ?nxt); (case s1 => (show "no")); (case' nxt => skip))
  | (with_reducible refine not_b ?_))
local macro_rules | `(tactic| show "alloc") => `(tactic| (first
  | ((with_reducible refine' al_l ?s1 ?nxt); (case s1 => (show "len")); (case' nxt => skip))
  | ((with_reducible refine' al_t ?s1 ?nxt); (case s1 => (show "len")); (case' nxt => skip))); intro _ _ _ _ _)
local macro_rules | `(tactic| show "ints") => `(tactic| first | assumption | exact Ints.of _ | exact Ints.nil | (apply Ints.cons; show "ints"))
local macro_rules | `(tactic| show "andv") => `(tactic| first
  | (with_reducible refine andv_T ?_)
  | (with_reducible refine andv_F ?_)
  | ((with_reducible refine' andv_y ?s1 ?nxt); (case s1 => (show "yes")); (case' nxt => skip))
  | ((with_reducible refine' andv_n ?s1 ?nxt); (case s1 => (show "no")); (case' nxt => skip))
  | ((with_reducible refine' andv_ny ?s1 ?nxt); (case s1 => (show "yes")); (case' nxt => skip))
  | ((with_reducible refine' andv_nn ?s1 ?nxt); (case s1 => (show "no")); (case' nxt => skip))
  | (with_reducible refine orv_T ?_)
  | (with_reducible refine orv_F ?_)
  | ((with_reducible refine' orv_y ?s1 ?nxt); (case s1 => (show "yes")); (case' nxt => skip))
  | ((with_reducible refine' orv_n ?s1 ?nxt); (case s1 => (show "no")); (case' nxt => skip))
  | ((with_reducible refine' orv_ny ?s1 ?nxt); (case s1 => (show "yes")); (case' nxt => skip))
  | ((with_reducible refine' orv_nn ?s1 ?nxt); (case s1 => (show "no")); (case' nxt => skip))
  | (with_reducible refine notv_T ?_)
  | (with_reducible refine notv_F ?_)
  | ((with_reducible refine' notv_y ?s1 ?nxt); (case s1 => (show "yes")); (case' nxt => skip))
  | ((with_reducible refine' notv_n ?s1 ?nxt); (case s1 => (show "no")); (case' nxt => skip))
  | (with_reducible refine notv_b ?_)
  | (with_reducible refine nott_bl ?_)
  | (with_reducible refine ife_T ?_)
  | (with_reducible refine ife_F ?_)
  | ((with_reducible refine' ife_y ?s1 ?nxt); (case s1 => (show "yes")); (case' nxt => skip))
  | ((with_reducible refine' ife_n ?s1 ?nxt); (case s1 => (show "no")); (case' nxt => skip))
  | ((with_reducible refine' ife_ny ?s1 ?nxt); (case s1 => (show "yes")); (case' nxt => skip))
  | ((with_reducible refine' ife_nn ?s1 ?nxt); (case s1 => (show "no")); (case' nxt => skip))
  | (with_reducible refine lce_T ?_)
  | (with_reducible refine lce_F ?_)
  | ((with_reducible refine' lce_y ?s1 ?nxt); (case s1 => (show "yes")); (case' nxt => skip))
  | ((with_reducible refine' lce_n ?s1 ?nxt); (case s1 => (show "no")); (case' nxt => skip))
  | ((with_reducible refine' lce_ny ?s1 ?nxt); (case s1 => (show "yes")); (case' nxt => skip))
  | ((with_reducible refine' lce_nn ?s1 ?nxt); (case s1 => (show "no")); (case' nxt => skip)))
local macro_rules | `(tactic| show "lct") => `(tactic| first
  | refine lct_0 ?_ | refine lct_1 ?_ | refine lct_2 ?_ | refine lct_3 ?_ | refine lct_4 ?_ | refine lct_5 ?_ | refine lct_6 ?_ | refine lct_7 ?_ | refine lct_8 ?_ | refine lct_9 ?_ | refine lct_10 ?_
  | refine lct_11 ?_ | refine lct_12 ?_ | refine lct_13 ?_ | refine lct_14 ?_ | refine lct_15 ?_ | refine lct_16 ?_ | refine lct_17 ?_ | refine lct_18 ?_ | refine lct_19 ?_ | refine lct_20 ?_)
-- an operation on values
local macro_rules | `(tactic| show "op") => `(tactic| first
  | (with_reducible refine o_add ?_)
  | (with_reducible refine o_sub ?_)
  | ((with_reducible refine' o_mul ?s1 ?nxt); (case s1 => (show "mulok")); (case' nxt => skip))
  | ((with_reducible refine' o_mod ?s1 ?nxt); (case s1 => (show "yes")); (case' nxt => skip))
  | ((with_reducible refine' o_div ?s1 ?nxt); (case s1 => (show "divok")); (case' nxt => skip))
  | (with_reducible refine o_lt ?_)
  | (with_reducible refine o_le ?_)
  | (with_reducible refine o_gt ?_)
  | (with_reducible refine o_ge ?_)
  | (with_reducible refine o_eqI ?_)
  | (with_reducible refine o_neI ?_)
  | (with_reducible refine o_isN ?_)
  | (with_reducible refine o_notN ?_)
  | ((with_reducible refine' o_eql ?s1 ?s2 ?s3 ?s4 ?nxt); (case s1 => (show "hp")); (case s2 => (show "hp")); (case s3 => (show "ints")); (case s4 => (show "ints")); (case' nxt => skip))
  | ((with_reducible refine' o_nel ?s1 ?s2 ?s3 ?s4 ?nxt); (case s1 => (show "hp")); (case s2 => (show "hp")); (case s3 => (show "ints")); (case s4 => (show "ints")); (case' nxt => skip))
  | ((with_reducible refine' o_eqt ?s1 ?s2 ?s3 ?s4 ?nxt); (case s1 => (show "hp")); (case s2 => (show "hp")); (case s3 => (show "ints")); (case s4 => (show "ints")); (case' nxt => skip))
  | ((with_reducible refine' o_net ?s1 ?s2 ?s3 ?s4 ?nxt); (case s1 => (show "hp")); (case s2 => (show "hp")); (case s3 => (show "ints")); (case s4 => (show "ints")); (case' nxt => skip))
  | (((with_reducible refine' o_cat ?s1 ?s2 ?s3 ?nxt); (case s1 => (show "hp")); (case s2 => (show "hp")); (case s3 => (show "len")); (case' nxt => skip)); intro _ _ _ _ _)
  | (with_reducible refine o_u ?_)
  | ((with_reducible refine' w_own2 ?s1 ?s2 ?nxt); (case s1 => (show "hp")); (case s2 => (show "hp")); (case' nxt => skip))
  | ((with_reducible refine' w_ownne ?s1 ?s2 ?nxt); (case s1 => (show "hp")); (case s2 => (show "hp")); (case' nxt => skip))
  | ((with_reducible refine' w_ownin ?s1 ?nxt); (case s1 => (show "hp")); (case' nxt => skip))
  | ((with_reducible refine' w_own1 ?s1 ?nxt); (case s1 => (show "hp")); (case' nxt => skip))
  | (with_reducible refine w_b0 ?_)
  | (with_reducible refine w_b1 ?_)
  | ((with_reducible refine o_or1 ?_); show "op")
  | ((with_reducible refine o_or2 ?_); show "op"))
local macro_rules | `(tactic| show "var") => `(tactic| first
  | (with_reducible refine gv_0 ?_) | (with_reducible refine gv_1 ?_) | (with_reducible refine gv_2 ?_) | (with_reducible refine gv_3 ?_) | (with_reducible refine gv_4 ?_) | (with_reducible refine gv_5 ?_) | (with_reducible refine gv_6 ?_) | (with_reducible refine gv_7 ?_) | (with_reducible refine gv_8 ?_) | (with_reducible refine gv_9 ?_) | (with_reducible refine gv_10 ?_)
  | (with_reducible refine gv_11 ?_) | (with_reducible refine gv_12 ?_) | (with_reducible refine gv_13 ?_) | (with_reducible refine gv_14 ?_) | (with_reducible refine gv_15 ?_) | (with_reducible refine gv_16 ?_) | (with_reducible refine gv_17 ?_) | (with_reducible refine gv_18 ?_) | (with_reducible refine gv_19 ?_) | (with_reducible refine gv_20 ?_))
local macro_rules | `(tactic| show "nam") => `(tactic| first
  | (with_reducible refine gn_0 ?_) | (with_reducible refine gn_1 ?_) | (with_reducible refine gn_2 ?_) | (with_reducible refine gn_3 ?_) | (with_reducible refine gn_4 ?_) | (with_reducible refine gn_5 ?_) | (with_reducible refine gn_6 ?_) | (with_reducible refine gn_7 ?_) | (with_reducible refine gn_8 ?_) | (with_reducible refine gn_9 ?_) | (with_reducible refine gn_10 ?_)
  | (with_reducible refine gn_11 ?_) | (with_reducible refine gn_12 ?_) | (with_reducible refine gn_13 ?_) | (with_reducible refine gn_14 ?_) | (with_reducible refine gn_15 ?_) | (with_reducible refine gn_16 ?_) | (with_reducible refine gn_17 ?_) | (with_reducible refine gn_18 ?_) | (with_reducible refine gn_19 ?_) | (with_reducible refine gn_20 ?_))
-- one step
local macro_rules | `(tactic| show "step") => `(tactic| first
  | show "var"
  | (with_reducible refine g_c ?_)
  | (with_reducible refine g_op ?_)
  | (with_reducible refine g_cons ?_)
  | (with_reducible refine g_nil ?_)
  | (with_reducible refine g_seq ?_)
  | (with_reducible refine g_asg ?_)
  | show "nam"
  | (with_reducible refine g_ret ?_)
  | (with_reducible refine g_next ?_)
  | (with_reducible refine g_drop ?_)
  | (with_reducible refine g_ifs ?_)
  | (with_reducible refine g_test ?_)
  | (with_reducible refine g_tb ?_)
  | (with_reducible refine g_bl ?_)
  | (with_reducible refine g_ttr ?_)
  | (with_reducible refine tru_bl ?_)
  | (with_reducible refine tru_int ?_)
  | (with_reducible refine tru_non ?_)
  | (with_reducible refine g_tand ?_)
  | (with_reducible refine g_tor ?_)
  | (with_reducible refine g_tnot ?_)
  | (with_reducible refine g_un ?_)
  | (with_reducible refine g_fld ?_)
  | (with_reducible refine g_prop ?_)
  | (with_reducible refine g_lst ?_)
  | (with_reducible refine g_tup ?_)
  | (with_reducible refine g_call ?_)
  | (with_reducible refine g_meth ?_)
  | (with_reducible refine g_make ?_)
  | (with_reducible refine g_cb ?_)
  | (with_reducible refine g_sfld ?_)
  | (with_reducible refine g_methK ?_)
  | (with_reducible refine g_tcallN ?_)
  | (with_reducible refine g_makeK ?_)
  | (with_reducible refine g_andv ?_)
  | (with_reducible refine g_orv ?_)
  | (with_reducible refine g_notv ?_)
  | (with_reducible refine g_nott ?_)
  | (with_reducible refine g_ife ?_)
  | (with_reducible refine g_forl ?_)
  | (with_reducible refine g_for1 ?_)
  | (with_reducible refine g_for2 ?_)
  | (with_reducible refine g_lcl ?_)
  | (with_reducible refine g_lc1 ?_)
  | (with_reducible refine g_lc2 ?_)
  | (with_reducible refine g_yes ?_)
  | show "lct"
  | (with_reducible refine g_par ?_)
  | (with_reducible refine par2 ?_)
  | (with_reducible refine g_par3 ?_)
  | (with_reducible refine par3 ?_)
  | (with_reducible refine g_bm ?_)
  | (with_reducible refine g_bm0 ?_)
  | (with_reducible refine g_retN ?_)
  | (with_reducible refine g_brk ?_)
  | (with_reducible refine g_cont ?_))
local macro_rules | `(tactic| show "kw") => `(tactic| first | exact (rfl : _ = [_]) | exact (rfl : _ = [_, _]) | exact (rfl : _ = [_, _, _]) | exact (rfl : _ = [_, _, _, _]) | exact (rfl : _ = [_, _, _, _, _]) | exact (rfl : _ = [_, _, _, _, _, _]))
-- built-ins, items
local macro_rules | `(tactic| show "bi") => `(tactic| first
  | (with_reducible refine b_int ?_)
  | (with_reducible refine b_intb ?_)
  | (with_reducible refine b_abs ?_)
  | (with_reducible refine b_max2 ?_)
  | (with_reducible refine b_min2 ?_)
  | (((with_reducible refine' b_len (n := ?n) ?s1 ?hn ?h); (case s1 => (show "hp"))); (case hn => (simp only [List.length_cons, List.length_nil, List.length_map, List.length_append]; rfl)))
  | (((with_reducible refine' b_lent (n := ?n) ?s1 ?hn ?h); (case s1 => (show "hp"))); (case hn => (simp only [List.length_cons, List.length_nil, List.length_map, List.length_append]; rfl)))
  | (((with_reducible refine' b_lenq (n := ?n) ?s1 ?hn ?h); (case s1 => (show "hq"))); (case hn => (first | (simp only [List.length_map]; rfl) | rfl)))
  | (((with_reducible refine' b_list ?s1 ?nxt); (case s1 => (show "hp")); (case' nxt => skip)); intro _ _ _ _ _)
  | (((with_reducible refine' b_listt ?s1 ?nxt); (case s1 => (show "hp")); (case' nxt => skip)); intro _ _ _ _ _)
  | ((with_reducible refine' o_powc (k := ?k) ?e ?hk ?h); (case e => (unfold CPow; omega)); (case hk => (simp only [Int.reducePow, Int.reduceToNat]; rfl)))
  | ((with_reducible refine' ix_l ?s1 ?s2 ?nxt); (case s1 => (show "hp")); (case s2 => (rfl)); (case' nxt => skip))
  | ((with_reducible refine' ix_t ?s1 ?s2 ?nxt); (case s1 => (show "hp")); (case s2 => (rfl)); (case' nxt => skip))
  | (((with_reducible refine' s_set0 ?s1 ?nxt); (case s1 => (show "hp")); (case' nxt => skip)); intro _ _ _)
  | ((with_reducible refine' f_fld ?s1 ?s2 ?s3 ?s4 ?nxt); (case s1 => (show "hp")); (case s2 => (assumption)); (case s3 => (assumption)); (case s4 => (rfl)); (case' nxt => skip))
  | (((with_reducible refine' s_fldg ?s1 ?s2 ?s3 ?s4 ?nxt); (case s1 => (show "hp")); (case s2 => (assumption)); (case s3 => (assumption)); (case s4 => (show "flen")); (case' nxt => skip)); intro _ _ _)
  | ((with_reducible refine' p_prop ?s1 ?nxt); (case s1 => (show "hp")); (case' nxt => skip))
  | ((with_reducible refine' m_meth ?s1 ?s2 ?nxt); (case s1 => (show "hp")); (case s2 => (rfl)); (case' nxt => skip))
  | ((with_reducible refine' m_methK ?s1 ?s2 ?nxt); (case s1 => (show "hp")); (case s2 => (rfl)); (case' nxt => skip))
  | ((with_reducible refine' g_callK ?s1 ?s2 ?s3 ?nxt); (case s1 => (rfl)); (case s2 => (rfl)); (case s3 => (show "kw")); (case' nxt => skip))
  | ((with_reducible refine' g_gtup ?s1 ?s2 ?nxt); (case s1 => (show "hp")); (case s2 => (rfl)); (case' nxt => skip))
  | ((with_reducible refine' bm_l ?s1 ?nxt); (case s1 => (show "hp")); (case' nxt => skip))
  | ((with_reducible refine' bm0_l ?s1 ?nxt); (case s1 => (show "hp")); (case' nxt => skip))
  | (((with_reducible refine' ap_append ?s1 ?s2 ?nxt); (case s1 => (show "hp")); (case s2 => (show "len")); (case' nxt => skip)); intro _ _ _)
  | ((with_reducible refine' isi_own ?s1 ?s2 ?s3 ?nxt); (case s1 => (show "hp")); (case s2 => (assumption)); (case s3 => (assumption)); (case' nxt => skip))
  | (with_reducible refine isi_ii ?_)
  | (with_reducible refine isi_ib ?_)
  | (with_reducible refine isi_bb ?_)
  | (with_reducible refine isi_bi ?_)
  | ((with_reducible refine' isi_ll ?s1 ?nxt); (case s1 => (show "hp")); (case' nxt => skip))
  | ((with_reducible refine' isi_tt ?s1 ?nxt); (case s1 => (show "hp")); (case' nxt => skip))
  | ((with_reducible refine g_or1 ?_); ((with_reducible refine' g_gtup ?s1 ?s2 ?nxt); (case s1 => (show "hp")); (case s2 => (rfl)); (case' nxt => skip)))
  | ((with_reducible refine g_or2 ?_); ((with_reducible refine' g_glst ?s1 ?s2 ?nxt); (case s1 => (show "hp")); (case s2 => (rfl)); (case' nxt => skip)))
  | (with_reducible refine g_gcons ?_)
  | (with_reducible refine g_gnil ?_)
  | (with_reducible refine g_gsub ?_))
local macro_rules | `(tactic| show "step2") => `(tactic| first
  | show "step"
  | show "op"
  | show "if"
  | show "andr"
  | show "orr"
  | show "notr"
  | show "andv"
  | show "alloc"
  | show "bi"
  | show "own")
local macro_rules | `(tactic| show "go") => `(tactic| repeat show "step2")
-- Same H H' , SB p H H' along the chain, from the back
local macro_rules | `(tactic| show "same") => `(tactic| first
  | assumption
  | exact Same.refl _
  | (((with_reducible refine' Same.trans ?nxt ?s1); (case s1 => (assumption)); (case' nxt => skip)); show "same"))
local macro_rules | `(tactic| show "sb") => `(tactic| first
  | assumption
  | exact SB.refl _ _
  | (((with_reducible refine' SB.trans ?nxt ?s1); (case s1 => (assumption)); (case' nxt => skip)); show "sb")
  | (((with_reducible refine' SB.trans ?nxt (SB.of ?s1)); (case s1 => (assumption)); (case' nxt => skip)); show "sb"))
local macro_rules | `(tactic| show "szf") => `(tactic| first | assumption | ((with_reducible refine' Sz.mono ?s1 ?s2); (case s1 => (show "sz")); (case s2 => (decide))))

-- Q (.bl (decide P)) H from Q (.bl true) H

-- two lists of ints are equal
local macro_rules | `(tactic| show "leq") => `(tactic| first | rfl | assumption | (simp only [List.cons.injEq, and_true, true_and]; omega) | (simp only [List.cons.injEq, and_true, true_and]; (with_reducible refine ⟨?_, ?_⟩) <;> omega))

abbrev fsR (a b d : Int) : List (Str × V) := [("_a", .int a), ("_b", .int b), ("_d", .int d)]
theorem fsR_mk (a b d : Int) : putF "_d" (.int d) (putF "_b" (.int b) (putF "_a" (.int a) [])) = fsR a b d := by
  have h1 : ¬ (("_a" : Str) = "_b") := by decide +kernel
  have h2 : ¬ (("_a" : Str) = "_d") := by decide +kernel
  have h3 : ¬ (("_b" : Str) = "_d") := by decide +kernel
  show putF "_d" (.int d) (if ("_a" : Str) = "_b" then _ else (("_a" : Str), V.int a) :: putF "_b" (.int b) []) = _
  rw [if_neg h1]
  show (if ("_a" : Str) = "_d" then _ else (("_a" : Str), V.int a) :: (if ("_b" : Str) = "_d" then _ else (("_b" : Str), V.int b) :: putF "_d" (.int d) [])) = _
  rw [if_neg h2, if_neg h3]
  rfl
theorem cells_eq0 {x y n : Int} (k : Int) (h : x = y + n * k) : x % n = y % n := by rw [h, Int.add_mul_emod_self_left]
theorem cells_eq (a b d n r c p q : Int) : (a * r + b * c + (a * p + b * q + d)) % n = (a * ((r + p) % n) + b * ((c + q) % n) + d) % n := by
  rw [Int.emod_def (r + p), Int.emod_def (c + q)]
  exact cells_eq0 (a * ((r + p) / n) + b * ((c + q) / n)) (by grind)
theorem cells_eqz (a b d n r c : Int) : (a * r + b * c + d) % n = (a * ((r + 0) % n) + b * ((c + 0) % n) + d) % n := by
  have z := cells_eq a b d n r c 0 0
  simp only [Int.mul_zero, Int.zero_add] at z
  exact z
theorem emod_congr {x y n : Int} (k : Int) (h : x = y + n * k) : x % n = y % n := by rw [h, Int.add_mul_emod_self_left]
theorem step_sign (a b d n r c p q : Int) : (a * ((r+p)%n) + b * ((c+q)%n) + d) % n = ((a*r+b*c+d)%n + (a*p+b*q)) % n := by
  rw [Int.emod_def (r+p) n, Int.emod_def (c+q) n, Int.emod_def (a*r+b*c+d) n]
  exact emod_congr ((a*r+b*c+d)/n - a*((r+p)/n) - b*((c+q)/n)) (by grind)
theorem q_at {Q : VK} {H : Hp} {p : Prop} {dP : Decidable p} {b : Bool} (h : decide p = b) (k : Q (.bl (decide p)) H) : Q (.bl b) H := h ▸ k
def rowV (a b d : Int) (n i : Nat) : List V := (List.range n).map fun (j : Nat) => V.int ((a * (i : Int) + b * (j : Int) + d) % (n : Int))
theorem rowV_at {a b d : Int} {n i j : Nat} (h : j < n) : (rowV a b d n i)[j]? = some (V.int ((a * (i : Int) + b * (j : Int) + d) % (n : Int))) := by
  unfold rowV
  rw [List.getElem?_map, List.getElem?_range h]
  rfl
def rowF (a b d : Int) (n i : Int) : V → Option V := fun v => match v with | .int j => some (.int ((a * i + b * j + d) % n)) | _ => none
theorem rowF_eq (a b d : Int) (n : Int) (i : Nat) (h : 0 ≤ n) : (rngV 0 n.toNat).filterMap (rowF a b d n i) = rowV a b d n.toNat i := by
  unfold rngV rowV
  rw [List.filterMap_map]
  have e : (n.toNat : Int) = n := Int.toNat_of_nonneg h
  have : (rowF a b d n i ∘ fun i : Nat => V.int (0 + (i : Int))) = fun j : Nat => some (V.int ((a * (i : Int) + b * (j : Int) + d) % (n.toNat : Int))) := by
    funext j
    show some (V.int ((a * (i : Int) + b * (0 + (j : Int)) + d) % n)) = _
    rw [Int.zero_add, e]
  rw [this, List.filterMap_eq_map']
/-- the square of a rule stands at t: its rows are lists of their own, new since H -/
def SqAt (a b d : Int) (n : Nat) (t : Addr) (qs : List Addr) (H' : Hp) : Prop := qs.length = n ∧ H' t = some (.lst (qs.map V.ref)) ∧ ∀ (i : Nat) q, qs[i]? = some q → H' q = some (.lst (rowV a b d n i))

local macro_rules | `(tactic| show "step2") => `(tactic| first
  | (with_reducible refine g_try ?_)
  | (with_reducible refine g_methS ?_)
  | (with_reducible refine g_methKS ?_)
  | (with_reducible refine g_callS ?_)
  | (with_reducible refine g_raise ?_)
  | (with_reducible refine g_xd ?_)
  | ((with_reducible refine' xd_at ?s1 ?s2 ?s3 ?s4 ?nxt); (case s1 => (show "hp")); (case s2 => (assumption)); (case s3 => (assumption)); (case s4 => (rfl)); (case' nxt => skip))
  | ((with_reducible refine' is_ty ?s1 ?s2 ?s3 ?nxt); (case s1 => (show "hp")); (case s2 => (assumption)); (case s3 => (assumption)); (case' nxt => skip))
  | ((with_reducible refine' is_ref ?s1 ?s2 ?s3 ?nxt); (case s1 => (show "hp")); (case s2 => (assumption)); (case s3 => (assumption)); (case' nxt => skip)))
local macro_rules | `(tactic| show "go") => `(tactic| repeat first | show "step2" | (rw [List.set_cons_succ]; simp only [List.set_cons_succ, List.set_cons_zero]))

local macro_rules | `(tactic| show "dp") => `(tactic| first
  | exact Dp.int _
  | exact Dp.bl _
  | exact Dp.str _
  | ((with_reducible refine' Dp.lst (SqL.of ?dh) ?dl); (case dh => show "hp"); (case dl => show "dpl"))
  | ((with_reducible refine' Dp.tup (SqT.of ?dh) ?dl); (case dh => show "hp"); (case dl => show "dpl")))
local macro_rules | `(tactic| show "dpl") => `(tactic| first
  | exact DpAll.nil
  | ((with_reducible refine' DpAll.cons ?d1 ?d2); (case d1 => show "dp"); (case d2 => show "dpl")))
local macro_rules | `(tactic| show "shd") => `(tactic| (simp [SeqAt.shaped, PyData.canLay0, PyData.canLayAll0, PyData.depth, PyData.depthAll] <;> decide +kernel))
local macro_rules | `(tactic| show "step2") => `(tactic| first
  | (with_reducible refine g_lcu ?_))
local macro_rules | `(tactic| show "op") => `(tactic| first
  | ((with_reducible refine' o_eqd ?s1 ?s2 ?s3 ?nxt); (case s1 => (show "dp")); (case s2 => (show "dp")); (case s3 => (show "shd")); (case' nxt => skip))
  | ((with_reducible refine' o_ned ?s1 ?s2 ?s3 ?nxt); (case s1 => (show "dp")); (case s2 => (show "dp")); (case s3 => (show "shd")); (case' nxt => skip))
  | ((with_reducible refine o_or1 ?_); show "op")
  | ((with_reducible refine o_or2 ?_); show "op"))

inductive TupZ (H : Hp) : List V → Prop
  | nil : TupZ H []
  | cons {q : Addr} {x y : Int} {xs : List V} (h : H q = some (.tup [.int x, .int y])) (sx : Sz 9000 x) (sy : Sz 9000 y) (r : TupZ H xs) : TupZ H (.ref q :: xs)
theorem TupZ.mem {H : Hp} : ∀ {xs : List V}, TupZ H xs → ∀ v ∈ xs, ∃ q x y, v = .ref q ∧ H q = some (.tup [.int x, .int y]) ∧ Sz 9000 x ∧ Sz 9000 y
  | _, .nil => fun v h => by cases h
  | _, .cons h sx sy r => fun v hv => by
    rcases List.mem_cons.mp hv with rfl | hv
    · exact ⟨_, _, _, rfl, h, sx, sy⟩
    · exact r.mem v hv
local macro_rules | `(tactic| show "tups") => `(tactic| first
  | exact TupZ.nil
  | ((with_reducible refine' TupZ.cons ?th ?tx ?ty ?tr); (case th => show "hp"); (case tx => show "szf"); (case ty => show "szf"); (case tr => show "tups")))
/-- pairs that are no cells of the square of size n -/
inductive BadZ (n : Int) (H : Hp) : List V → Prop
  | nil : BadZ n H []
  | cons {q : Addr} {x y : Int} {xs : List V} (h : H q = some (.tup [.int x, .int y])) (sx : Sz 9000 x) (sy : Sz 9000 y) (bad : x < 0 ∨ n ≤ x ∨ y < 0 ∨ n ≤ y) (r : BadZ n H xs) : BadZ n H (.ref q :: xs)
theorem BadZ.mem {n : Int} {H : Hp} : ∀ {xs : List V}, BadZ n H xs → ∀ v ∈ xs, ∃ q x y, v = .ref q ∧ H q = some (.tup [.int x, .int y]) ∧ Sz 9000 x ∧ Sz 9000 y ∧ (x < 0 ∨ n ≤ x ∨ y < 0 ∨ n ≤ y)
  | _, .nil => fun v h => by cases h
  | _, .cons h sx sy b r => fun v hv => by
    rcases List.mem_cons.mp hv with rfl | hv
    · exact ⟨_, _, _, rfl, h, sx, sy, b⟩
    · exact r.mem v hv
local macro_rules | `(tactic| show "bads") => `(tactic| first
  | exact BadZ.nil
  | ((with_reducible refine' BadZ.cons ?th ?tx ?ty ?tb ?tr); (case th => show "hp"); (case tx => show "szf"); (case ty => show "szf"); (case tb => omega); (case tr => show "bads")))

local macro_rules | `(tactic| show "step2") => `(tactic| first
  | (with_reducible refine g_lset ?_)
  | (with_reducible refine b_gcd ?_))
local macro_rules | `(tactic| show "op") => `(tactic| first
  | (with_reducible refine o_eqI ?_)
  | (with_reducible refine o_neI ?_)
  | ((with_reducible refine' o_eqV ?s1 ?nxt); (case s1 => (rfl)); (case' nxt => skip))
  | ((with_reducible refine' o_neV ?s1 ?nxt); (case s1 => (rfl)); (case' nxt => skip))
  | ((with_reducible refine o_or1 ?_); show "op")
  | ((with_reducible refine o_or2 ?_); show "op"))

theorem gcdZ_one (t : Int) : gcdZ t 1 = 1 := by unfold gcdZ; simp
/-- the signs of a line -/
def sgs (n s t : Int) (i : Nat) : List Int := (List.range i).map fun j : Nat => (s + (j : Int) * t) % n
theorem sgs_len {n s t : Int} {i : Nat} : (sgs n s t i).length = i := by unfold sgs; rw [List.length_map, List.length_range]
theorem sgs_succ {n s t : Int} {i : Nat} : sgs n s t (i + 1) = sgs n s t i ++ [(s + (i : Int) * t) % n] := by unfold sgs; rw [List.range_succ, List.map_append]; rfl
theorem line_sign {a b d n r c p q i : Int} : (a * ((r + i * p) % n) + b * ((c + i * q) % n) + d) % n = (a * r + b * c + d + i * (a * p + b * q)) % n := by
  rw [← cells_eq]
  congr 1
  grind
theorem sgs_nodup {n s t : Int} (hn : 1 ≤ n) : (sgs n s t n.toNat).Nodup ↔ Nat.gcd t.natAbs n.natAbs = 1 := by
  have get : ∀ (i : Nat) (h : i < (sgs n s t n.toNat).length), (sgs n s t n.toNat)[i] = (s + (i : Int) * t) % n := by
    intro i h
    simp only [sgs, List.getElem_map, List.getElem_range]
  constructor
  · intro h
    apply Classical.byContradiction
    intro hg
    have g0 : 0 < Nat.gcd t.natAbs n.natAbs := Nat.gcd_pos_of_pos_right _ (by omega)
    obtain ⟨m, hm⟩ := Nat.gcd_dvd_right t.natAbs n.natAbs
    obtain ⟨u, hu⟩ := Nat.gcd_dvd_left t.natAbs n.natAbs
    generalize Nat.gcd t.natAbs n.natAbs = g at *
    have hm0 : 0 < m := by
      apply Nat.pos_of_ne_zero
      intro z
      rw [z, Nat.mul_zero] at hm
      omega
    have hmn : m < n.toNat := by
      have e : n.toNat = g * m := by omega
      rw [e]
      have : 1 * m < g * m := Nat.mul_lt_mul_of_lt_of_le (by omega) (Nat.le_refl _) hm0
      omega
    have q := List.pairwise_iff_getElem.mp h 0 m (by rw [sgs_len]; omega) (by rw [sgs_len]; exact hmn) hm0
    apply q
    rw [get, get]
    have dv : n ∣ (m : Int) * t := by
      rw [← Int.natAbs_dvd_natAbs, Int.natAbs_mul, Int.natAbs_natCast]
      exact ⟨u, by rw [hm, hu]; grind⟩
    obtain ⟨w, hw⟩ := dv
    rw [hw, Int.add_mul_emod_self_left]
    simp
  · intro hg
    apply List.pairwise_iff_getElem.mpr
    intro i j hi hj hij e
    rw [get, get] at e
    rw [sgs_len] at hi hj
    have h0 := Int.emod_emod_of_dvd (s + (j : Int) * t) (Int.dvd_refl n)
    have h1 : ((s + (j : Int) * t) - (s + (i : Int) * t)) % n = 0 := by rw [Int.sub_emod, e]; simp
    have h2 : n ∣ ((j - i : Nat) : Int) * t := by
      have z := Int.dvd_of_emod_eq_zero h1
      have e2 : (s + (j : Int) * t) - (s + (i : Int) * t) = ((j - i : Nat) : Int) * t := by
        rw [Int.natCast_sub (by omega)]
        grind
      rw [e2] at z
      exact z
    rw [← Int.natAbs_dvd_natAbs, Int.natAbs_mul, Int.natAbs_natCast] at h2
    have h3 : n.natAbs ∣ (j - i) := Nat.Coprime.dvd_of_dvd_mul_right (by rw [Nat.Coprime, Nat.gcd_comm]; exact hg) h2
    have := Nat.le_of_dvd (by omega) h3
    omega
theorem sgs_dd {n s t : Int} (hn : 1 ≤ n) : (((dd (sgs n s t n.toNat)).length : Nat) : Int) = n ↔ (gcdZ t n) = 1 := by
  have h := dd_len (sgs n s t n.toNat)
  rw [sgs_nodup hn, sgs_len] at h
  unfold gcdZ
  omega

local macro_rules | `(tactic| show "beq") => `(tactic| first | rfl | assumption | ((with_reducible refine' decide_eq_decide.mpr ?s1); (case s1 => (rw [Int.add_comm]))) | exact decide_eq_true (gcdZ_one _))

local macro_rules | `(tactic| show "mulok") => `(tactic| ((with_reducible refine' Big.mul ?s1 ?s2); (case s1 => (assumption)); (case s2 => (assumption))))
local macro_rules | `(tactic| show "mulok") => `(tactic| ((with_reducible refine' mul_big ?s1 ?s2 ?s3); (case s1 => (show "sz")); (case s2 => (show "sz")); (case s3 => (decide))))
local macro_rules | `(tactic| show "mulok") => `(tactic| first
  | assumption
  | ((with_reducible refine mul_okl ?_); omega)
  | ((with_reducible refine mul_okr ?_); omega)
  | ((with_reducible refine' mul_ok ?s1 ?s2 ?s3); (case s1 => (show "sz")); (case s2 => (show "sz")); (case s3 => (decide))))
local macro_rules | `(tactic| show "step2") => `(tactic| first
  | (with_reducible refine g_chain ?_)
  | (with_reducible refine g_sl ?_)
  | (with_reducible refine g_part ?_)
  | (with_reducible refine part_at ?_)
  | (with_reducible refine g_nopart ?_)
  | (((with_reducible refine' sl_at ?s1 ?s2 ?nxt); (case s1 => (show "hp")); (case s2 => (rfl)); (case' nxt => skip)); intro _ _ _ _ _))

theorem b_absn {H : Hp} {Q : VK} {i : Int} (h : Q (.int (i.natAbs : Int)) H) : rAbs1 [.int i] H Q := b_abs (by
  have e : (if i < 0 then -i else i) = (i.natAbs : Int) := by split <;> omega
  rw [e]; exact h)
theorem b_max2g {H : Hp} {Q : VK} {i j : Int} (h : ∀ k : Int, i ≤ k → j ≤ k → (k = i ∨ k = j) → Q (.int k) H) : rMax2 [.int i, .int j] H Q := b_max2 (h _ (by split <;> omega) (by split <;> omega) (by split <;> omega))
/-- a cell, or none -/
def Opt (H : Hp) (v : V) : Option (Int × Int) → Prop
  | none => v = .non
  | some c => ∃ q, v = .ref q ∧ H q = some (.tup [.int c.1, .int c.2])
theorem Opt.same {H H' : Hp} {v : V} {o : Option (Int × Int)} (h : Opt H v o) (s : Same H H') : Opt H' v o := by
  cases o with
  | none => exact h
  | some c => obtain ⟨q, e, h⟩ := h; exact ⟨q, e, s _ _ h⟩
/-- where the sign of (0, 0) is met again -/
def quo (n p q t : Int) : Option (Int × Int) := if (gcdZ t n) = 1 then none else some (n / (gcdZ t n) * p % n, n / (gcdZ t n) * q % n)
theorem quo_1 {n p q t : Int} (h : (gcdZ t n) = 1) : quo n p q t = none := if_pos h
theorem quo_2 {n p q t : Int} (h : ¬ (gcdZ t n) = 1) : quo n p q t = some (n / (gcdZ t n) * p % n, n / (gcdZ t n) * q % n) := if_neg h
theorem prod_bd {x y : Int} (m n : Int) (h1 : -m ≤ x) (h2 : x ≤ m) (h3 : -n ≤ y) (h4 : y ≤ n) : -(m * n) ≤ x * y ∧ x * y ≤ m * n := by
  have e1 : (x * y).natAbs ≤ m.natAbs * n.natAbs := by rw [Int.natAbs_mul]; exact Nat.mul_le_mul (by omega) (by omega)
  have e2 : ((m.natAbs * n.natAbs : Nat) : Int) = m * n := by rw [Int.natCast_mul, Int.natAbs_of_nonneg (by omega), Int.natAbs_of_nonneg (by omega)]
  omega
theorem Opt.no {H : Hp} {n p q t : Int} (e : gcdZ t n = 1) : Opt H .non (quo n p q t) := by rw [quo_1 e]; exact (rfl : V.non = V.non)
theorem Opt.at {H : Hp} {x : Addr} {n p q t : Int} (e : ¬ gcdZ t n = 1) (h : H x = some (.tup [.int (n / gcdZ t n * p % n), .int (n / gcdZ t n * q % n)])) : Opt H (.ref x) (quo n p q t) := by rw [quo_2 e]; exact ⟨x, rfl, h⟩
local macro_rules | `(tactic| show "opt") => `(tactic| first | assumption | ((with_reducible refine' Opt.same ?oh ?os); (case os => assumption); (case oh => show "opt")))
theorem gcd_facts {t n : Int} (hn : 1 ≤ n) : 1 ≤ (gcdZ t n) ∧ (gcdZ t n) ≤ n ∧ 1 ≤ n / (gcdZ t n) ∧ n / (gcdZ t n) ≤ n := by
  unfold gcdZ
  have g0 : 0 < Nat.gcd t.natAbs n.natAbs := Nat.gcd_pos_of_pos_right _ (by omega)
  have g1 : Nat.gcd t.natAbs n.natAbs ≤ n.natAbs := Nat.gcd_le_right _ (by omega)
  refine ⟨by omega, by omega, ?_, Int.ediv_le_self _ (by omega)⟩
  rw [Int.le_ediv_iff_mul_le (by omega)]
  omega
/-- j times t is 0 by n exactly if n over the greatest common divisor divides j -/
theorem times_zero {n t : Int} (hn : 1 ≤ n) (j : Nat) : ((j : Int) * t) % n = 0 ↔ (n.natAbs / Nat.gcd t.natAbs n.natAbs) ∣ j := by
  have g0 : 0 < Nat.gcd t.natAbs n.natAbs := Nat.gcd_pos_of_pos_right _ (by omega)
  rw [← Int.dvd_iff_emod_eq_zero, ← Int.natAbs_dvd_natAbs, Int.natAbs_mul, Int.natAbs_natCast]
  have cop : Nat.Coprime (n.natAbs / Nat.gcd t.natAbs n.natAbs) (t.natAbs / Nat.gcd t.natAbs n.natAbs) := by
    rw [Nat.Coprime, Nat.gcd_comm]
    rw [Nat.gcd_div (Nat.gcd_dvd_left _ _) (Nat.gcd_dvd_right _ _), Nat.div_self g0]
  obtain ⟨u, hu⟩ := Nat.gcd_dvd_left t.natAbs n.natAbs
  obtain ⟨m, hm⟩ := Nat.gcd_dvd_right t.natAbs n.natAbs
  generalize hg : Nat.gcd t.natAbs n.natAbs = g at *
  have e1 : n.natAbs / g = m := by rw [hm]; exact Nat.mul_div_cancel_left _ g0
  have e2 : t.natAbs / g = u := by rw [hu]; exact Nat.mul_div_cancel_left _ g0
  rw [e1, e2] at cop
  rw [e1, hm, hu]
  have e3 : j * (g * u) = g * (j * u) := by rw [Nat.mul_left_comm]
  rw [e3, Nat.mul_dvd_mul_iff_left g0]
  constructor
  · intro h
    exact Nat.Coprime.dvd_of_dvd_mul_right cop h
  · intro h
    exact Nat.dvd_mul_right_of_dvd h u
theorem quo_nat {n t : Int} (hn : 1 ≤ n) : n / (gcdZ t n) = ((n.natAbs / Nat.gcd t.natAbs n.natAbs : Nat) : Int) := by
  unfold gcdZ
  rw [Int.natCast_ediv, Int.natAbs_of_nonneg (by omega)]
theorem quo_times {n t : Int} (hn : 1 ≤ n) : n / gcdZ t n = n ↔ gcdZ t n = 1 := by
  constructor
  · intro h
    rw [quo_nat hn] at h
    have h2 : n.natAbs / Nat.gcd t.natAbs n.natAbs = n.natAbs := by omega
    rcases Nat.div_eq_self.mp h2 with h3 | h3
    · omega
    · unfold gcdZ; rw [h3]; rfl
  · intro h
    rw [h, Int.ediv_one]
theorem quo_zero {n a b p q : Int} (hn : 1 ≤ n) : (a * (n / (gcdZ (a * p + b * q) n) * p % n) + b * (n / (gcdZ (a * p + b * q) n) * q % n)) % n = 0 := by
  rw [quo_nat hn]
  have h := (times_zero (t := a * p + b * q) hn (n.natAbs / Nat.gcd (a * p + b * q).natAbs n.natAbs)).mpr (Nat.dvd_refl _)
  generalize n.natAbs / Nat.gcd (a * p + b * q).natAbs n.natAbs = e at *
  have z := line_sign (a := a) (b := b) (d := 0) (n := n) (r := 0) (c := 0) (p := p) (q := q) (i := (e : Int))
  simp only [Int.zero_add, Int.add_zero, Int.mul_zero] at z
  rw [z]
  exact h

local macro_rules | `(tactic| show "step2") => `(tactic| first
  | (with_reducible refine b_absn ?_)
  | ((with_reducible refine b_max2g ?_); intro _ _ _ _))
local macro_rules | `(tactic| show "tops") => `(tactic| (intro t ht; simp only [List.mem_cons, List.not_mem_nil, or_false] at ht; rcases ht with rfl | rfl | rfl | rfl | rfl | rfl | rfl | rfl | rfl | rfl | rfl | rfl | rfl | rfl | rfl | rfl <;> ((with_reducible refine ⟨?_, ?_⟩) <;> show "tsz")))
local macro_rules | `(tactic| show "tsz") => `(tactic| first
  | omega
  | ((with_reducible refine' Sz.mono (Sz.mk ?s1 : Sz 300 _) ?s2); (case s1 => (omega)); (case s2 => (decide)))
  | show "szf")

theorem in_two {K : PySem.W.Frag} {H : Hp} {Q : VK} {a : Addr} {i p q : Int} (h1 : H a = some (.tup [.int p, .int q])) (h : Q (.bl (decide (i = p ∨ i = q))) H) : rIn K false (.int i) (.ref a) H Q := by
  refine ⟨a, _, rfl, .inr (SqT.of h1), rfl, rfl, ?_⟩
  have e : inV (.int i) [.int p, .int q] = decide (i = p ∨ i = q) := by
    simp [inV, eqV]
    grind
  show Q (.bl (inV (.int i) [.int p, .int q])) H
  rw [e]
  exact h
local macro_rules | `(tactic| show "op") => `(tactic| ((with_reducible refine' in_two ?s1 ?nxt); (case s1 => (show "hp")); (case' nxt => skip)))

/-- the written word and its four numbers -/
structure Way (K : PySem.W.Frag) (D : Addr) (word : Str) (p q s t : Int) : Prop where
  ex : ∃ a : Addr, PySem.W.nsIn K D word = some (some (.ref a)) ∧ ∃ (o : Obj) (its : Array Value) (n : Nat), K.lookup a = some o ∧ o.cls = .type "tuple" ∧ o.data = .seq its n ∧ its.size ≤ sizeLine ∧ Vals [V.int p, V.int q, V.int s, V.int t] its.toList
theorem way_mk {K : PySem.W.Frag} {D a : Addr} {word : Str} {p q s t : Int} {u0 u1 u2 u3 : Tok} {m : Nat} (h1 : PySem.W.nsIn K D word = some (some (.ref a))) (h2 : K.lookup a = some ⟨.type "tuple", none, .seq #[.int p u0, .int q u1, .int s u2, .int t u3] m, #[]⟩) : Way K D word p q s t :=
  ⟨a, h1, _, _, _, h2, rfl, rfl, by show 4 ≤ sizeLine; decide, .cons ⟨u0, rfl⟩ (.cons ⟨u1, rfl⟩ (.cons ⟨u2, rfl⟩ (.cons ⟨u3, rfl⟩ .nil)))⟩

theorem o_eqS {H : Hp} {Q : VK} {x y : Str} (h : Q (.bl (decide (x = y))) H) : rEq (.str x) (.str y) H Q := ⟨rfl, by
  have e : decide (V.str x = V.str y) = decide (x = y) := by by_cases z : x = y <;> simp [z]
  rw [e]; exact h⟩
local macro_rules | `(tactic| show "op") => `(tactic| first
  | (with_reducible refine o_eqS ?_)
  | ((with_reducible refine o_or1 ?_); show "op"))
local macro_rules | `(tactic| show "no") => `(tactic| first | assumption | omega | (intro q; cases q; done) | (decide +kernel))
local macro_rules | `(tactic| show "yes") => `(tactic| first | assumption | rfl | omega | exact ⟨rfl, rfl, rfl⟩ | (decide +kernel) | (simp only [ra_mul, rb_mul, rd_mul]; exact ⟨RA_0 _ _, RB_0 _ _, RD_0 _ _ _⟩))
local macro_rules | `(tactic| show "wlit") => `(tactic| first | exact (rfl : _ = wd 0) | exact (rfl : _ = wd 1) | exact (rfl : _ = wd 2) | exact (rfl : _ = wd 3) | exact (rfl : _ = wd 4) | exact (rfl : _ = wd 5) | exact (rfl : _ = wd 6) | exact (rfl : _ = wd 7))
theorem wn_sz (g : Fin 8) : Sz 9 (wp g) ∧ Sz 9 (wq g) ∧ Sz 9 (ws g) ∧ Sz 9 (wt g) := by
  rcases fin8 g with rfl | rfl | rfl | rfl | rfl | rfl | rfl | rfl <;> exact ⟨Sz.mk (by decide), Sz.mk (by decide), Sz.mk (by decide), Sz.mk (by decide)⟩
theorem we_if (g : Fin 8) (a : Int) : (if -1 = wp g ∨ -1 = wq g then a else 0) = we g * a := by
  rcases fin8 g with rfl | rfl | rfl | rfl | rfl | rfl | rfl | rfl <;> simp only [wp_0, wp_1, wp_2, wp_3, wp_4, wp_5, wp_6, wp_7, wq_0, wq_1, wq_2, wq_3, wq_4, wq_5, wq_6, wq_7, we_0, we_1, we_2, we_3, we_4, we_5, we_6, we_7] <;> simp
theorem wf_if (g : Fin 8) (a : Int) : (if -1 = ws g ∨ -1 = wt g then a else 0) = wf g * a := by
  rcases fin8 g with rfl | rfl | rfl | rfl | rfl | rfl | rfl | rfl <;> simp only [ws_0, ws_1, ws_2, ws_3, ws_4, ws_5, ws_6, ws_7, wt_0, wt_1, wt_2, wt_3, wt_4, wt_5, wt_6, wt_7, wf_0, wf_1, wf_2, wf_3, wf_4, wf_5, wf_6, wf_7] <;> simp
theorem WR_0 (n r c : Int) : WR 0 n r c = r := by unfold WR; simp only [wp_0, wq_0, we_0]; omega
theorem WC_0 (n r c : Int) : WC 0 n r c = c := by unfold WC; simp only [ws_0, wt_0, wf_0]; omega
theorem RA_sz {n : Nat} {g : Fin 8} {a b : Int} (ha : Sz n a) (hb : Sz n b) : Sz n (RA g a b) := by
  unfold RA Sz at *
  rcases fin8 g with rfl | rfl | rfl | rfl | rfl | rfl | rfl | rfl <;> simp only [wp_0, wp_1, wp_2, wp_3, wp_4, wp_5, wp_6, wp_7, ws_0, ws_1, ws_2, ws_3, ws_4, ws_5, ws_6, ws_7] <;> omega
theorem RB_sz {n : Nat} {g : Fin 8} {a b : Int} (ha : Sz n a) (hb : Sz n b) : Sz n (RB g a b) := by
  unfold RB Sz at *
  rcases fin8 g with rfl | rfl | rfl | rfl | rfl | rfl | rfl | rfl <;> simp only [wq_0, wq_1, wq_2, wq_3, wq_4, wq_5, wq_6, wq_7, wt_0, wt_1, wt_2, wt_3, wt_4, wt_5, wt_6, wt_7] <;> omega
local macro_rules | `(tactic| show "sz") => `(tactic| first
  | assumption
  | ((with_reducible refine' RA_sz ?s1 ?s2); (case s1 => (show "sz")); (case s2 => (show "sz")))
  | ((with_reducible refine' RB_sz ?s1 ?s2); (case s1 => (show "sz")); (case s2 => (show "sz"))))
theorem cd_eq : ∀ j g : Fin 8, PyData.eqv (cdat j) (cdat g) = decide (j = g) := by decide +kernel
theorem cd_sh : ∀ g : Fin 8, SeqAt.shaped (cdat g) = true := by decide +kernel
def wlist : List V := [.str (wd 0), .str (wd 1), .str (wd 2), .str (wd 3), .str (wd 4), .str (wd 5), .str (wd 6), .str (wd 7)]
theorem wlist_at {i : Nat} {v : V} (h : wlist[i]? = some v) : ∃ g : Fin 8, g.val = i ∧ v = .str (wd g) := by
  have hl : i < 8 := by
    have := (List.getElem?_eq_some_iff.mp h).1
    exact this
  refine ⟨⟨i, hl⟩, rfl, ?_⟩
  have : i = 0 ∨ i = 1 ∨ i = 2 ∨ i = 3 ∨ i = 4 ∨ i = 5 ∨ i = 6 ∨ i = 7 := by omega
  rcases this with rfl | rfl | rfl | rfl | rfl | rfl | rfl | rfl <;> exact (Option.some.inj h).symm

local macro_rules | `(tactic| show "tl") => `(tactic| first
  | assumption
  | exact TL.empty
  | ((with_reducible refine' TL.int ?s1); (case s1 => (show "szf")))
  | ((with_reducible refine' TL.app ?s1 ?s2); (case s1 => (show "tl")); (case s2 => (show "tl")))
  | exact (show TL 60 _ from by unfold TL; decide +kernel))
local macro_rules | `(tactic| show "step2") => `(tactic| first
  | (with_reducible refine g_fmt ?_)
  | ((with_reducible refine' fmt_int ?s1 ?nxt); (case s1 => (show "szf")); (case' nxt => skip))
  | (with_reducible refine g_fs ?_)
  | (with_reducible refine js_nil ?_)
  | (with_reducible refine js_cons ?_)
  | ((with_reducible refine' js_at ?s1 ?s2 ?s3 ?nxt); (case s1 => (show "tl")); (case s2 => (show "tl")); (case s3 => (decide)); (case' nxt => skip))
  | (with_reducible refine g_m1 ?_)
  | (with_reducible refine m1_at ?_)
  | ((with_reducible refine' b_str ?s1 ?nxt); (case s1 => (show "szf")); (case' nxt => skip))
  | (((with_reducible refine' s_setl (n := 1) ?s1 ?s2 ?nxt); (case s1 => (show "hp")); (case s2 => (rfl)); (case' nxt => skip)); intro _ _ _))
local macro_rules | `(tactic| show "op") => `(tactic| first
  | ((with_reducible refine' o_adds ?s1 ?s2 ?s3 ?nxt); (case s1 => (show "tl")); (case s2 => (show "tl")); (case s3 => (decide)); (case' nxt => skip))
  | ((with_reducible refine' w_ownI ?s1 ?nxt); (case s1 => (show "hp")); (case' nxt => skip))
  | (with_reducible refine o_eqs ?_)
  | (with_reducible refine o_nes ?_)
  | ((with_reducible refine o_or1 ?_); show "op")
  | ((with_reducible refine o_or2 ?_); show "op"))
def rtx (a b d : Int) : Str := tx a ++ "r + " ++ tx b ++ "c + " ++ tx d

structure Hld (P : Prop) : Prop where
  out : P
local macro_rules | `(tactic| show "step2") => `(tactic| first
  | ((with_reducible refine' g_augI ?s1 ?nxt); (case s1 => (rfl)); (case' nxt => skip))
  | (with_reducible refine augI_add ?_)
  | (with_reducible refine augI_sub ?_)
  | (with_reducible refine g_dcl ?_)
  | (with_reducible refine g_ss ?_)
  | (with_reducible refine dct_0 ?_) | (with_reducible refine dct_1 ?_) | (with_reducible refine dct_2 ?_) | (with_reducible refine dct_3 ?_) | (with_reducible refine dct_4 ?_) | (with_reducible refine dct_5 ?_) | (with_reducible refine dct_6 ?_) | (with_reducible refine dct_7 ?_) | (with_reducible refine dct_8 ?_)
  | (with_reducible refine dce_T ?_) | (with_reducible refine dce_F ?_)
  | (with_reducible refine g_dget ?_)
  | ((with_reducible refine' lctr ?s1 ?nxt); (case s1 => (rfl)); (case' nxt => skip))
  | ((with_reducible refine g_dnew ?_); intro _ _ _ _ _)
  | (((with_reducible refine' ap_extend ?s1 ?s2 ?s3 ?nxt); (case s1 => (show "hp")); (case s2 => (show "hp")); (case s3 => (show "len")); (case' nxt => skip)); intro _ _ _))
abbrev nI (ps : List Nat) : List V := ps.map fun p : Nat => V.int (p : Int)
theorem nI_snoc (ps : List Nat) (p : Nat) : nI (ps ++ [p]) = nI ps ++ [V.int (p : Int)] := List.map_append
theorem nI_at {ps : List Nat} {i : Nat} {v : V} (h : (nI ps)[i]? = some v) : ∃ p : Nat, v = V.int (p : Int) ∧ ps[i]? = some p := by
  rw [List.getElem?_map] at h
  cases e : ps[i]? with
  | none => rw [e] at h; cases h
  | some p => rw [e] at h; exact ⟨p, (Option.some.inj h).symm, rfl⟩
theorem take_at {ps : List Nat} {i p : Nat} (h : ps[i]? = some p) : ps.take (i + 1) = ps.take i ++ [p] := by
  rw [List.take_succ, h]
  rfl
theorem up_notake {ps : List Nat} (h : ps.Pairwise (· < ·)) {i p : Nat} (e : ps[i]? = some p) : p ∉ ps.take i := by
  intro m
  obtain ⟨j, hj⟩ := List.mem_iff_getElem?.mp m
  have jl : j < i := by
    have := (List.getElem?_eq_some_iff.mp hj).1
    rw [List.length_take] at this
    omega
  rw [List.getElem?_take_of_lt jl] at hj
  obtain ⟨a1, a2⟩ := List.getElem?_eq_some_iff.mp hj
  obtain ⟨b1, b2⟩ := List.getElem?_eq_some_iff.mp e
  have := List.pairwise_iff_getElem.mp h j i a1 b1 jl
  omega
def mulF (w : Nat) : V → Option V
  | .int d => some (.int (d * (w : Int)))
  | _ => none
theorem nI_fm (ds : List Nat) (w : Nat) : (nI ds).filterMap (mulF w) = nI (ds.map (· * w)) := by
  rw [nI, List.filterMap_map, nI, List.map_map, ← List.filterMap_eq_map]
  rfl
def fullF (p r : Nat) : V → Option V
  | .int d => if (r : Int) % d = 0 ∧ ¬ (r : Int) / d % (p : Int) = 0 then some (.int d) else none
  | _ => none
theorem fullF_fm (p r : Nat) (ds : List Nat) : (nI ds).filterMap (fullF p r) = nI (ds.filter fun d => decide (d ∣ r ∧ ¬ p ∣ r / d)) := by
  rw [nI, List.filterMap_map, nI, ← List.filterMap_eq_map, ← List.filterMap_eq_filter, List.filterMap_filterMap]
  congr 1
  funext d
  have e1 : ((r : Int) % (d : Int) = 0) ↔ d ∣ r := ⟨fun z => Int.natCast_dvd_natCast.mp (Int.dvd_of_emod_eq_zero z), fun z => Int.emod_eq_zero_of_dvd (Int.natCast_dvd_natCast.mpr z)⟩
  have e2 : ((r : Int) / (d : Int) % (p : Int) = 0) ↔ p ∣ r / d := ⟨fun z => Int.natCast_dvd_natCast.mp (Int.dvd_of_emod_eq_zero z), fun z => Int.emod_eq_zero_of_dvd (Int.natCast_dvd_natCast.mpr z)⟩
  show (if (r : Int) % (d : Int) = 0 ∧ ¬ (r : Int) / (d : Int) % (p : Int) = 0 then some (V.int (d : Int)) else none) = _
  by_cases z : d ∣ r ∧ ¬ p ∣ r / d
  · rw [if_pos ⟨e1.mpr z.1, fun k => z.2 (e2.mp k)⟩]
    simp [Option.guard, z]
  · rw [if_neg (fun k => z ⟨e1.mp k.1, fun q => k.2 (e2.mpr q)⟩)]
    simp [Option.guard, z]
abbrev fsC (n : Nat) (c x : Addr) : List (Str × V) := [("_number", .int (n : Int)), ("_chosen", .ref c), ("_extra", .ref x)]
open Classical in
noncomputable def keyF (p : Nat → Prop) : V → Option (Key × V)
  | .int d => if p d.toNat then some (Sum.inl d, .bl true) else none
  | _ => none
open Classical in
theorem keyF_at (p : Nat → Prop) (d : Nat) : keyF p (.int (d : Int)) = if p d then some (Sum.inl (d : Int), .bl true) else none := rfl
theorem keyF_yes {p : Nat → Prop} {d : Nat} (h : p d) : (keyF p (.int (d : Int))).map (fun q => (kV q.1, q.2)) = some (V.int (d : Int), V.bl true) := by
  rw [keyF_at, if_pos h]
  rfl
theorem keyF_no {p : Nat → Prop} {d : Nat} (h : ¬ p d) : (keyF p (.int (d : Int))).map (fun q => (kV q.1, q.2)) = none := by
  rw [keyF_at, if_neg h]
  rfl
open Classical in
theorem keyF_fm (p : Nat → Prop) (ds : List Nat) : (nI ds).filterMap (keyF p) = (ds.filter fun d => decide (p d)).map fun d : Nat => ((Sum.inl (d : Int) : Key), V.bl true) := by
  induction ds with
  | nil => rfl
  | cons d ds ih =>
    show (V.int (d : Int) :: nI ds).filterMap (keyF p) = _
    rw [List.filterMap_cons, ih, List.filter_cons]
    by_cases h : p d
    · have e : keyF p (.int (d : Int)) = some (Sum.inl (d : Int), .bl true) := by rw [keyF_at, if_pos h]
      rw [e, if_pos (decide_eq_true h)]
      rfl
    · have e : keyF p (.int (d : Int)) = none := by rw [keyF_at, if_neg h]
      rw [e, if_neg (by rw [decide_eq_false h]; exact Bool.false_ne_true)]
theorem keyF_all (ds : List Nat) : (nI ds).filterMap (keyF fun _ => True) = ds.map fun d : Nat => ((Sum.inl (d : Int) : Key), V.bl true) := by
  induction ds with
  | nil => rfl
  | cons d ds ih =>
    show (V.int (d : Int) :: nI ds).filterMap (keyF fun _ => True) = _
    rw [List.filterMap_cons, ih, keyF_at, if_pos trivial]
    rfl
theorem gcdZ_nat (i j : Int) : gcdZ i j = ((Int.gcd i j : Nat) : Int) := by
  unfold gcdZ
  rfl
theorem cal_in {P R : Prop} {dP : Decidable P} {dR : Decidable R} {dPR : Decidable (P ↔ ¬ R)} : (!decide (V.bl (decide P) = V.bl (decide R))) = decide (P ↔ ¬ R) := by
  by_cases p : P <;> by_cases r : R <;> simp [p, r]
theorem fsC_mk (n : Nat) (c x : Addr) : putF "_extra" (.ref x) (putF "_chosen" (.ref c) (putF "_number" (.int (n : Int)) [])) = fsC n c x := by
  have h1 : ¬ (("_number" : Str) = "_chosen") := by decide +kernel
  have h2 : ¬ (("_number" : Str) = "_extra") := by decide +kernel
  have h3 : ¬ (("_chosen" : Str) = "_extra") := by decide +kernel
  show putF "_extra" (.ref x) (if ("_number" : Str) = "_chosen" then _ else (("_number" : Str), V.int (n : Int)) :: putF "_chosen" (.ref c) []) = _
  rw [if_neg h1]
  show (if ("_number" : Str) = "_extra" then _ else (("_number" : Str), V.int (n : Int)) :: (if ("_chosen" : Str) = "_extra" then _ else (("_chosen" : Str), V.ref c) :: putF "_extra" (.ref x) [])) = _
  rw [if_neg h2, if_neg h3]
  rfl
def trialF (o : Nat) : V → Option V
  | .int b => if b < (o : Int) ∧ (o : Int) % b = 0 then some (.int b) else none
  | _ => none
def trial (o : Nat) : List Int := (List.range 30).filterMap fun k : Nat => if (2 : Int) + (k : Int) < (o : Int) ∧ (o : Int) % ((2 : Int) + (k : Int)) = 0 then some ((2 : Int) + (k : Int)) else none
theorem trial_fm (o : Nat) : (rngV 2 (32 - 2 : Int).toNat).filterMap (trialF o) = (trial o).map V.int := by
  show (rngV 2 30).filterMap (trialF o) = _
  unfold trial rngV
  rw [List.filterMap_map, List.map_filterMap]
  congr 1
  funext k
  show (if (2 : Int) + (k : Int) < (o : Int) ∧ (o : Int) % ((2 : Int) + (k : Int)) = 0 then some (V.int ((2 : Int) + (k : Int))) else none) = _
  by_cases z : (2 : Int) + (k : Int) < (o : Int) ∧ (o : Int) % ((2 : Int) + (k : Int)) = 0
  · rw [if_pos z, if_pos z]; rfl
  · rw [if_neg z, if_neg z]; rfl
theorem trial_no {o b : Nat} (h : trial o = []) (b2 : 2 ≤ b) (b32 : b < 32) (bo : b < o) : ¬ b ∣ o := by
  intro m
  have e := List.filterMap_eq_nil_iff.mp h (b - 2) (List.mem_range.mpr (by omega))
  have eb : (2 : Int) + ((b - 2 : Nat) : Int) = (b : Int) := by omega
  rw [eb, if_pos ⟨by omega, Int.emod_eq_zero_of_dvd (Int.natCast_dvd_natCast.mpr m)⟩] at e
  cases e
theorem trial_pr {o : Nat} (o2 : 2 ≤ o) (hm : o ≤ 1000) (h : trial o = []) : Pr o := by
  refine ⟨o2, fun d m => Classical.byContradiction fun w => ?_⟩
  obtain ⟨e, rfl⟩ := m
  have d0 : d ≠ 0 := fun k => by subst k; omega
  have e0 : e ≠ 0 := fun k => by subst k; omega
  have d1 : d ≠ 1 := fun k => w (.inl k)
  have e1 : e ≠ 1 := fun k => w (.inr (by subst k; omega))
  have dl : d * 2 ≤ d * e := Nat.mul_le_mul_left d (by omega)
  have el : 2 * e ≤ d * e := Nat.mul_le_mul_right e (by omega)
  by_cases z : d < 32
  · exact trial_no h (by omega) z (by omega) (Nat.dvd_mul_right d e)
  · by_cases y : e < 32
    · exact trial_no h (by omega) y (by omega) (Nat.dvd_mul_left e d)
    · have := Nat.mul_le_mul (Nat.le_of_not_lt z) (Nat.le_of_not_lt y)
      omega
/-- what a calendar made of a number, divisors of it and extra sizes holds -/
structure CalOk (n : Nat) (ds xs : List Nat) (N : Nat) (cs es : List Nat) : Prop where
  n1 : 1 ≤ N
  dv : N ∣ n
  cu : cs.Pairwise (· < ·)
  eu : es.Pairwise (· < ·)
  cm : ∀ d, d ∈ cs ↔ d ∈ ds ∧ d ∣ N
  em : ∀ z, z ∈ es ↔ z ∈ xs
  gc : ∀ z, Nat.gcd z N ∈ ds ↔ Nat.gcd z n ∈ ds
  le : Least N fun z => Nat.gcd z n ∈ ds
theorem SBq {H HA HB : Hp} {P p : Addr} (hP : _root_.L3.Fr H P) (s : SB p H HA) (t : SB P HA HB) : SB p H HB := fun a o n e => t a o (ne_of_none e hP.out) (s a o n e)
theorem sb_free {H H' : Hp} {p : Addr} {xs ys : List V} (s : SB p H H') (h1 : H p = some (.lst xs)) (h2 : H' p = some (.lst ys)) {C : Addr} (h : H' C = none) : H C = none := by
  cases e : H C with
  | none => rfl
  | some o =>
    have n : C ≠ p := fun z => by rw [z, h2] at h; cases h
    rw [s _ _ n e] at h
    cases h
theorem fr_nb {H H' : Hp} {C : Addr} (f : ∀ C, H' C = none → H C = none) (h : _root_.L3.Fr H' C) : _root_.L3.Fr H C := ⟨f C h.out⟩
theorem SBn {H H1 H2 : Hp} {D p : Addr} (hD : H D = none) (s : SB p H H1) (t : SB D H1 H2) : SB p H H2 := fun a o n e => t a o (ne_of_none e hD) (s a o n e)
/-- a calendar as such: its number, its chosen divisors, its extra sizes -/
structure Canon (N : Nat) (cs es : List Nat) : Prop where
  n1 : 1 ≤ N
  nm : N ≤ 10 ^ 24
  cu : cs.Pairwise (· < ·)
  cd : ∀ d ∈ cs, d ∣ N
  eu : es.Pairwise (· < ·)
  ep : ∀ x ∈ es, 1 ≤ x ∧ x ≤ 10 ^ 30
  le : Least N fun z => Nat.gcd z N ∈ cs
theorem CalOk.reg {n N : Nat} {ds xs cs es : List Nat} (h : CalOk n ds xs N cs es) (z : Nat) : Nat.gcd z N ∈ cs ↔ Nat.gcd z n ∈ ds := by
  rw [h.cm, h.gc]
  exact ⟨fun q => q.1, fun q => ⟨q, Nat.gcd_dvd_right _ _⟩⟩
theorem CalOk.canon {n N : Nat} {ds xs cs es : List Nat} (h : CalOk n ds xs N cs es) (n1 : 1 ≤ n) (nm : n ≤ 10 ^ 24) (hx : ∀ x ∈ xs, 1 ≤ x ∧ x ≤ 10 ^ 30) : Canon N cs es :=
  ⟨h.n1, Nat.le_trans (Nat.le_of_dvd n1 h.dv) nm, h.cu, fun d m => ((h.cm d).mp m).2, h.eu, fun x m => hx x ((h.em x).mp m), h.le.congr fun z => (h.reg z).symm⟩
structure Cal (C : Addr) (H : Hp) (r : Addr) (N : Nat) (cs es : List Nat) : Prop where
  ob : ∃ dx c e, H r = some (.ins C dx (fsC N c e)) ∧ H c = some (.dK (dI cs)) ∧ H e = some (.dK (dI es))
  ok : Canon N cs es
  ne : ∀ dx c e, H r = some (.ins C dx (fsC N c e)) → c ≠ e
theorem Cal.same {C : Addr} {H H' : Hp} {r : Addr} {N : Nat} {cs es : List Nat} (h : Cal C H r N cs es) (s : Same H H') : Cal C H' r N cs es := by
  obtain ⟨dx, c, e, h1, h2, h3⟩ := h.ob
  exact ⟨⟨dx, c, e, s _ _ h1, s _ _ h2, s _ _ h3⟩, h.ok, fun dx' c' e' q => by
    have z := s _ _ h1
    rw [q] at z
    cases z
    exact h.ne _ _ _ h1⟩
theorem Cal.sb {C : Addr} {H H' : Hp} {r p : Addr} {N : Nat} {cs es : List Nat} {xs : List V} (h : Cal C H r N cs es) (s : SB p H H') (hp : H p = some (.lst xs)) : Cal C H' r N cs es := by
  obtain ⟨dx, c, e, h1, h2, h3⟩ := h.ob
  exact ⟨⟨dx, c, e, s _ _ (fun k => by rw [k, hp] at h1; cases h1) h1, s _ _ (fun k => by rw [k, hp] at h2; cases h2) h2, s _ _ (fun k => by rw [k, hp] at h3; cases h3) h3⟩, h.ok, fun dx' c' e' q => by
    have z := s _ _ (fun k => by rw [k, hp] at h1; cases h1) h1
    rw [q] at z
    cases z
    exact h.ne _ _ _ h1⟩
local macro_rules | `(tactic| show "cal") => `(tactic| first
  | assumption
  | ((with_reducible refine' Cal.same ?s1 ?s2); (case s2 => assumption); (case s1 => show "cal"))
  | ((with_reducible refine' Cal.sb ?s1 ?s2 ?s3); (case s2 => assumption); (case s3 => show "hp"); (case s1 => show "cal")))
/-- a list of pairs of numbers -/
structure Prs (H : Hp) (P : Addr) (qs : List (Nat × Nat)) : Prop where
  ob : ∃ as : List Addr, H P = some (.lst (as.map V.ref)) ∧ as.length = qs.length ∧ ∀ (i : Nat) (a : Addr) (q : Nat × Nat), as[i]? = some a → qs[i]? = some q → H a = some (.tup [.int (q.1 : Int), .int (q.2 : Int)])
theorem Prs.same {H H' : Hp} {P : Addr} {qs : List (Nat × Nat)} (h : Prs H P qs) (s : Same H H') : Prs H' P qs := by
  obtain ⟨as, h1, h2, h3⟩ := h.ob
  exact ⟨as, s _ _ h1, h2, fun i a q e1 e2 => s _ _ (h3 i a q e1 e2)⟩
theorem Prs.sb {H H' : Hp} {P p : Addr} {qs : List (Nat × Nat)} {xs : List V} (h : Prs H P qs) (s : SB p H H') (n : P ≠ p) (hp : H p = some (.lst xs)) : Prs H' P qs := by
  obtain ⟨as, h1, h2, h3⟩ := h.ob
  exact ⟨as, s _ _ n h1, h2, fun i a q e1 e2 => s _ _ (fun k => by have := h3 i a q e1 e2; rw [k, hp] at this; cases this) (h3 i a q e1 e2)⟩
local macro_rules | `(tactic| show "prs") => `(tactic| first
  | assumption
  | ((with_reducible refine' Prs.same ?s1 ?s2); (case s2 => assumption); (case s1 => show "prs"))
  | ((with_reducible refine' Prs.sb ?s1 ?s2 ?s3 ?s4); (case s2 => assumption); (case s4 => show "hp"); (case s3 => show "ne"); (case s1 => show "prs")))
def cmpB (p : Nat) (cs : List Nat) (d : Nat) : Bool := decide (V.bl (decide (d ∈ cs)) = V.bl (decide (d / p ∈ cs)))
def cmpF (p : Nat) (cs : List Nat) : V → Option V
  | .int d => some (.bl (cmpB p cs d.toNat))
  | _ => none
theorem cmpF_fm (ds : List Nat) (p : Nat) (cs : List Nat) : (nI ds).filterMap (cmpF p cs) = (ds.map (cmpB p cs)).map V.bl := by
  rw [nI, List.filterMap_map, List.map_map, ← List.filterMap_eq_map]
  rfl
theorem all_needless (p r : Nat) (ds cs : List Nat) : (((ds.filter fun d => decide (d ∣ r ∧ ¬ p ∣ r / d)).map (cmpB p cs)).all id = true) ↔ Needless p r ds cs := by
  have e : ∀ d, cmpB p cs d = true ↔ (d ∈ cs ↔ d / p ∈ cs) := fun d => by
    unfold cmpB
    rw [decide_eq_true_iff]
    constructor
    · intro h
      exact decide_eq_decide.mp (V.bl.inj h)
    · intro h
      rw [decide_eq_decide.mpr h]
  rw [List.all_map, List.all_eq_true]
  constructor
  · intro h d hd h1 h2
    exact (e d).mp (h d (List.mem_filter.mpr ⟨hd, decide_eq_true ⟨h1, h2⟩⟩))
  · intro h d hd
    obtain ⟨a, b⟩ := List.mem_filter.mp hd
    have := of_decide_eq_true b
    exact (e d).mpr (h d a this.1 this.2)
theorem mod0 {r q : Nat} (h : (r : Int) % (q : Int) = 0) : q ∣ r := Int.natCast_dvd_natCast.mp (Int.dvd_of_emod_eq_zero h)
theorem mod0' {r q : Nat} (h : ¬ (r : Int) % (q : Int) = 0) : ¬ q ∣ r := fun z => h (Int.emod_eq_zero_of_dvd (Int.natCast_dvd_natCast.mpr z))
theorem pw_len {n l : Nat} (h : 2 ^ l ≤ n) (hm : n ≤ 10 ^ 24) : l ≤ 90 := by
  apply Classical.byContradiction
  intro w
  have : 2 ^ 91 ≤ 2 ^ l := Nat.pow_le_pow_right (by decide) (by omega)
  omega

def Ndd (n : Nat) (cs qs : List Nat) (r : Nat) : Prop := ∀ q ∈ qs, q ∣ r → ¬ Tells (r / q) fun x => Nat.gcd x n ∈ cs
theorem Ndd.div {n r p : Nat} {cs qs : List Nat} (h : Ndd n cs qs r) (r1 : 1 ≤ r) (pr : p ∣ r) : Ndd n cs qs (r / p) := fun q m d t => by
  obtain ⟨w, rfl⟩ := pr
  have p0 : 0 < p := Nat.pos_of_ne_zero fun e => by subst e; omega
  have w0 : 0 < w := Nat.pos_of_ne_zero fun e => by subst e; omega
  rw [Nat.mul_div_cancel_left w p0] at d t
  obtain ⟨u, rfl⟩ := d
  have q0 : 0 < q := Nat.pos_of_ne_zero fun e => by subst e; omega
  rw [Nat.mul_div_cancel_left u q0] at t
  refine h q m ⟨p * u, by grind⟩ (t.up ?_)
  have e : p * (q * u) / q = p * u := Nat.div_eq_of_eq_mul_right q0 (by grind)
  rw [e]
  exact Nat.dvd_mul_left u p
theorem Ndd.snoc {n r p : Nat} {cs qs : List Nat} (h : Ndd n cs qs r) (g : p ∣ r → ¬ Tells (r / p) fun x => Nat.gcd x n ∈ cs) : Ndd n cs (qs ++ [p]) r := fun q m => by
  rcases List.mem_append.mp m with m | m
  · exact h q m
  · rw [List.mem_singleton.mp m]; exact g
def InC (N : Nat) (cs es : List Nat) (z : Int) : Prop := 1 ≤ z ∧ ((Int.gcd z N ∈ cs) ↔ ¬ (z.toNat ∈ es))
instance (N : Nat) (cs es : List Nat) (z : Int) : Decidable (InC N cs es z) := by unfold InC; infer_instance
theorem CalOk.inC {n N : Nat} {ds xs cs es : List Nat} (h : CalOk n ds xs N cs es) (z : Int) : InC N cs es z ↔ InC n ds xs z := by
  unfold InC
  refine and_congr_right fun z1 => ?_
  obtain ⟨w, rfl⟩ : ∃ w : Nat, z = (w : Int) := ⟨z.toNat, by omega⟩
  have e1 : Int.gcd (w : Int) N = Nat.gcd w N := rfl
  have e2 : Int.gcd (w : Int) n = Nat.gcd w n := rfl
  rw [e1, e2, h.reg, h.em]

theorem Prs.snoc {H H2 : Hp} {P A : Addr} {qs : List (Nat × Nat)} {p k : Nat} {as : List Addr} (h2 : as.length = qs.length) (h3 : ∀ (i : Nat) (a : Addr) (q : Nat × Nat), as[i]? = some a → qs[i]? = some q → H a = some (.tup [.int (q.1 : Int), .int (q.2 : Int)])) (t : H A = some (.tup [.int (p : Int), .int (k : Int)])) (s : SB P H H2) (h1 : H P = some (.lst (as.map V.ref))) (hP : H2 P = some (.lst (as.map V.ref ++ [.ref A]))) : Prs H2 P (qs ++ [(p, k)]) := by
  have ne : ∀ {a : Addr} {xs : List V}, H a = some (.tup xs) → a ≠ P := fun {a xs} e z => by rw [z, h1] at e; cases e
  refine ⟨as ++ [A], by rw [hP, List.map_append]; rfl, by rw [List.length_append, List.length_append, h2]; rfl, fun i a q e1 e2 => ?_⟩
  rcases Nat.lt_or_ge i as.length with z | z
  · rw [List.getElem?_append_left z] at e1
    rw [List.getElem?_append_left (h2 ▸ z)] at e2
    have := h3 i a q e1 e2
    exact s _ _ (ne this) this
  · rw [List.getElem?_append_right z] at e1
    rw [List.getElem?_append_right (h2 ▸ z)] at e2
    have i0 : i - as.length = 0 := by
      apply Classical.byContradiction
      intro w
      rw [List.getElem?_eq_none (by simp only [List.length_singleton]; omega)] at e1
      cases e1
    rw [i0] at e1
    rw [← h2, i0] at e2
    obtain rfl := Option.some.inj e1
    obtain rfl := Option.some.inj e2
    exact s _ _ (ne t) t
theorem pr9 : ∀ v ∈ [V.int 2, V.int 3, V.int 5, V.int 7, V.int 11, V.int 13, V.int 17, V.int 19, V.int 23], ∃ m : Nat, v = .int (m : Int) ∧ Pr m ∧ m ≤ 1000 := by
  intro v hv
  simp only [List.mem_cons, List.not_mem_nil, or_false] at hv
  rcases hv with rfl | rfl | rfl | rfl | rfl | rfl | rfl | rfl | rfl
  · exact ⟨2, rfl, trial_pr (by omega) (by omega) (by decide), by omega⟩
  · exact ⟨3, rfl, trial_pr (by omega) (by omega) (by decide), by omega⟩
  · exact ⟨5, rfl, trial_pr (by omega) (by omega) (by decide), by omega⟩
  · exact ⟨7, rfl, trial_pr (by omega) (by omega) (by decide), by omega⟩
  · exact ⟨11, rfl, trial_pr (by omega) (by omega) (by decide), by omega⟩
  · exact ⟨13, rfl, trial_pr (by omega) (by omega) (by decide), by omega⟩
  · exact ⟨17, rfl, trial_pr (by omega) (by omega) (by decide), by omega⟩
  · exact ⟨19, rfl, trial_pr (by omega) (by omega) (by decide), by omega⟩
  · exact ⟨23, rfl, trial_pr (by omega) (by omega) (by decide), by omega⟩

theorem pw_sz {pr j : Nat} (h : pr ≤ 1000) (hj : j ≤ 39) : Sz 400 ((pr ^ j : Nat) : Int) := by
  have h1 : pr ^ j ≤ 1000 ^ j := Nat.pow_le_pow_left h j
  have h2 : 1000 ^ j ≤ 1000 ^ 39 := Nat.pow_le_pow_right (by decide) hj
  have h3 : (1000 : Nat) ^ 39 < 2 ^ 400 := by decide
  exact Sz.mk (by rw [Int.natAbs_natCast]; omega)

/-- what a law's own calendar is: its number, all divisors of it, some of them, extra sizes -/
structure CalIn (m lim xl n : Nat) (ds cs xs : List Nat) : Prop where
  n1 : 1 ≤ n
  nm : n ≤ lim
  all : AllDivs n ds
  len : ds.length ≤ m
  sub : cs.Sublist ds
  xp : ∀ z ∈ xs, 1 ≤ z ∧ z ≤ 10 ^ 6
  xn : xs.length ≤ xl
theorem CalIn.cd {m lim xl n : Nat} {ds cs xs : List Nat} (h : CalIn m lim xl n ds cs xs) : ∀ d ∈ cs, d ∣ n := fun d m => (h.all.iff d).mp (h.sub.subset m)
theorem CalIn.few {m lim xl n : Nat} {ds cs xs : List Nat} (h : CalIn m lim xl n ds cs xs) : Few n m := fun l nd hd => Nat.le_trans (h.all.few l nd hd) h.len
theorem CalIn.cl {m lim xl n : Nat} {ds cs xs : List Nat} (h : CalIn m lim xl n ds cs xs) : cs.length ≤ m := Nat.le_trans h.sub.length_le h.len
theorem CalIn.d0 {m lim xl n : Nat} {ds cs xs : List Nat} (h : CalIn m lim xl n ds cs xs) : 0 < ds.length := List.length_pos_of_mem ((h.all.iff 1).mpr (Nat.one_dvd n))
theorem CalIn.d1 {m lim xl n : Nat} {ds cs xs : List Nat} (h : CalIn m lim xl n ds cs xs) : ∀ d ∈ ds, 1 ≤ d ∧ d ≤ lim := fun d k => ⟨Nat.pos_of_dvd_of_pos ((h.all.iff d).mp k) h.n1, Nat.le_trans (Nat.le_of_dvd h.n1 ((h.all.iff d).mp k)) h.nm⟩
theorem alast {n : Nat} {ds : List Nat} (h : AllDivs n ds) (n1 : 1 ≤ n) : atI (nI ds) (-1) = some (.int (n : Int)) := by
  have mn : n ∈ ds := (h.iff n).mpr (Nat.dvd_refl n)
  obtain ⟨j, hj⟩ := List.mem_iff_getElem?.mp mn
  obtain ⟨jl, je⟩ := List.getElem?_eq_some_iff.mp hj
  have e : j = ds.length - 1 := by
    apply Classical.byContradiction
    intro w
    have lt := List.pairwise_iff_getElem.mp h.up j (ds.length - 1) jl (by omega) (by omega)
    have := Nat.le_of_dvd n1 ((h.iff _).mp (List.getElem_mem (show ds.length - 1 < ds.length by omega)))
    omega
  unfold atI ixN
  rw [List.length_map, if_neg (by decide), if_pos (by omega)]
  show (nI ds)[((-1 : Int) + (ds.length : Int)).toNat]? = _
  rw [show ((-1 : Int) + (ds.length : Int)).toNat = j by omega, List.getElem?_map, hj]
  rfl
theorem cut_ints (zs : List Int) (lo hi : Option Int) : ∃ ws : List Int, cutV (zs.map V.int) lo hi = ws.map V.int ∧ (∀ w ∈ ws, w ∈ zs) ∧ ws.length ≤ zs.length := by
  unfold cutV
  refine ⟨(zs.drop (HT.sIx (zs.map V.int).length 0 lo)).take (HT.sIx (zs.map V.int).length (zs.map V.int).length hi - HT.sIx (zs.map V.int).length 0 lo), by rw [List.map_take, List.map_drop], fun w m => List.mem_of_mem_drop (List.mem_of_mem_take m), ?_⟩
  rw [List.length_take, List.length_drop]
  omega
theorem ints_nI : ∀ xs : List Nat, Ints (nI xs) (xs.map fun d : Nat => (d : Int)) := fun xs => by
  rw [show nI xs = (xs.map fun d : Nat => (d : Int)).map V.int by rw [List.map_map]; rfl]
  exact Ints.of _

theorem andv_k {P B : Prop} {dP : Decidable P} {dB : Decidable B} {tb : TE} {σ : L2.St} {H : Hp} {Q : VK} (ht : ∀ Q : VK, Q (.bl (decide B)) H → tb σ H Q) (k : Q (.bl (decide (P ∧ B))) H) : AndVR (.bl (decide P)) tb σ H Q := by
  by_cases p : P
  · refine andv_y p (ht _ ?_)
    have e : decide (P ∧ B) = decide B := decide_eq_decide.mpr ⟨fun q => q.2, fun q => ⟨p, q⟩⟩
    rw [e] at k
    exact k
  · refine andv_n p ?_
    rw [decide_eq_false (fun q : P ∧ B => p q.1)] at k
    exact k
theorem nbl (A B : Prop) [dA : Decidable A] [dB : Decidable B] : (!decide (V.bl (decide A) = V.bl (decide B))) = true ↔ ¬ (A ↔ B) := by
  by_cases a : A <;> by_cases b : B <;> simp [a, b]
theorem lcmZ_nat (a b : Nat) : lcmZ (a : Int) (b : Int) = ((Nat.lcm a b : Nat) : Int) := by
  unfold lcmZ
  rfl
theorem Few.dvd {n m l : Nat} (h : Few n m) (d : l ∣ n) : Few l m := fun xs nd hd => h xs nd fun x k => Nat.dvd_trans (hd x k) d
theorem Few.le {n m k : Nat} (h : Few n m) (l : m ≤ k) : Few n k := fun xs nd hd => Nat.le_trans (h xs nd hd) l
theorem dI_list (ks : List Nat) : ((dI ks).map fun kv => kV kv.1) = nI ks := by
  unfold dI
  rw [List.map_map]
  rfl
theorem up_len {a b : List Nat} (h : a.Pairwise (· < ·)) (m : ∀ x ∈ a, x ∈ b) : a.length ≤ b.length := List.Nodup.length_le_of_subset (h.imp fun {a b} q => Nat.ne_of_lt q) m
/-- all other sizes -/
theorem not_ok {N N' : Nat} {cs ds es es' cs' : List Nat} (h : Canon N cs es) (hd : ∀ d, d ∈ ds ↔ d ∣ N ∧ d ∉ cs) (k : CalOk N ds es N' cs' es') : N' = N ∧ es' = es ∧ ∀ d, d ∈ cs' ↔ d ∣ N ∧ d ∉ cs := by
  have e : N' = N := by
    refine Least.unique k.n1 h.n1 k.le ((h.le.not).congr fun z => ?_)
    rw [hd]
    exact ⟨fun q => ⟨Nat.gcd_dvd_right _ _, q⟩, fun q => q.2⟩
  subst e
  refine ⟨rfl, up_unique k.eu h.eu k.em, fun d => ?_⟩
  rw [k.cm, hd]
  exact ⟨fun q => q.1, fun q => ⟨q, q.1⟩⟩
theorem not_in {N : Nat} {cs es cs' : List Nat} (h : Canon N cs es) (k : ∀ d, d ∈ cs' ↔ d ∣ N ∧ d ∉ cs) (z : Int) : InC N cs' es z ↔ 1 ≤ z ∧ ¬ InC N cs es z := by
  unfold InC
  constructor
  · rintro ⟨a, b⟩
    refine ⟨a, fun q => ?_⟩
    rw [k] at b
    have dv : Int.gcd z N ∣ N := by
      have := Nat.gcd_dvd_right z.natAbs N
      exact this
    by_cases e : z.toNat ∈ es
    · have := q.2
      by_cases c : Int.gcd z N ∈ cs
      · exact (this.mp c) e
      · exact (b.mp ⟨dv, c⟩) e
    · exact (b.mpr e).2 (q.2.mpr e)
  · rintro ⟨a, b⟩
    refine ⟨a, ?_⟩
    have dv : Int.gcd z N ∣ N := Nat.gcd_dvd_right z.natAbs N
    rw [k]
    by_cases e : z.toNat ∈ es <;> by_cases c : Int.gcd z N ∈ cs
    · exact ⟨fun q => absurd c q.2, fun q => absurd e q⟩
    · exact absurd ⟨a, ⟨fun q => absurd q c, fun q => absurd e q⟩⟩ b
    · exact absurd ⟨a, ⟨fun _ => e, fun _ => c⟩⟩ b
    · exact ⟨fun _ => e, fun _ => ⟨dv, c⟩⟩
/-- the numbers of few divisors, put together -/
theorem Few.lcm {a b m k : Nat} (a0 : 0 < a) (b0 : 0 < b) (ha : Few a m) (hb : Few b k) : Few (Nat.lcm a b) (m * k) := by
  intro l nd hl
  have key : ∀ d, d ∣ Nat.lcm a b → d ∣ Nat.lcm (Nat.gcd d a) (Nat.gcd d b) := by
    intro d hd
    have g0 : 0 < Nat.gcd a b := Nat.gcd_pos_of_pos_left _ a0
    obtain ⟨b1, hb1⟩ := Nat.gcd_dvd_right a b
    have el : Nat.lcm a b = a * b1 := by
      refine Nat.eq_of_mul_eq_mul_left g0 ?_
      rw [Nat.gcd_mul_lcm, show Nat.gcd a b * (a * b1) = a * (Nat.gcd a b * b1) by grind, ← hb1]
    have d0 : 0 < d := Nat.pos_of_dvd_of_pos hd (Nat.lcm_pos a0 b0)
    have u0 : 0 < Nat.gcd d a := Nat.gcd_pos_of_pos_left _ d0
    obtain ⟨d', hd'⟩ := Nat.gcd_dvd_left d a
    obtain ⟨a', ha'⟩ := Nat.gcd_dvd_right d a
    have cop : Nat.Coprime d' a' := by
      have e : Nat.gcd (Nat.gcd d a * d') (Nat.gcd d a * a') = Nat.gcd d a := by rw [← hd', ← ha']
      rw [Nat.gcd_mul_left] at e
      exact Nat.eq_of_mul_eq_mul_left u0 (by rw [e, Nat.mul_one])
    have d1 : d' ∣ b1 := by
      rw [el] at hd
      have : Nat.gcd d a * d' ∣ Nat.gcd d a * (a' * b1) := by rw [← hd', ← Nat.mul_assoc, ← ha']; exact hd
      exact cop.dvd_of_dvd_mul_left (Nat.dvd_of_mul_dvd_mul_left u0 this)
    have gg : Nat.gcd (Nat.gcd d a) (Nat.gcd d b) ∣ Nat.gcd a b := Nat.dvd_gcd (Nat.dvd_trans (Nat.gcd_dvd_left _ _) (Nat.gcd_dvd_right _ _)) (Nat.dvd_trans (Nat.gcd_dvd_right _ _) (Nat.gcd_dvd_right _ _))
    have d2 : d' * Nat.gcd (Nat.gcd d a) (Nat.gcd d b) ∣ Nat.gcd d b := by
      refine Nat.dvd_gcd ?_ ?_
      · have : d' * Nat.gcd (Nat.gcd d a) (Nat.gcd d b) ∣ d' * Nat.gcd d a := Nat.mul_dvd_mul_left _ (Nat.gcd_dvd_left _ _)
        rw [Nat.mul_comm d' (Nat.gcd d a), ← hd'] at this
        exact this
      · have t := Nat.mul_dvd_mul gg d1
        rw [← hb1, Nat.mul_comm] at t
        exact t
    have h0 : 0 < Nat.gcd (Nat.gcd d a) (Nat.gcd d b) := Nat.gcd_pos_of_pos_left _ u0
    have e3 := Nat.gcd_mul_lcm (Nat.gcd d a) (Nat.gcd d b)
    have d3 : Nat.gcd (Nat.gcd d a) (Nat.gcd d b) * d ∣ Nat.gcd (Nat.gcd d a) (Nat.gcd d b) * Nat.lcm (Nat.gcd d a) (Nat.gcd d b) := by
      rw [e3]
      obtain ⟨t, ht⟩ := d2
      refine ⟨t, ?_⟩
      have : Nat.gcd d a * Nat.gcd d b = Nat.gcd d a * (d' * Nat.gcd (Nat.gcd d a) (Nat.gcd d b) * t) := by rw [← ht]
      rw [this]
      have e5 : Nat.gcd (Nat.gcd d a) (Nat.gcd d b) * d * t = Nat.gcd (Nat.gcd d a) (Nat.gcd d b) * (Nat.gcd d a * d') * t := by rw [← hd']
      rw [e5]
      grind
    exact Nat.dvd_of_mul_dvd_mul_left h0 d3
  have inj : ∀ d e, d ∣ Nat.lcm a b → e ∣ Nat.lcm a b → Nat.gcd d a = Nat.gcd e a → Nat.gcd d b = Nat.gcd e b → d = e := by
    intro d e hd he e1 e2
    have lt : ∀ x y, Nat.gcd x a = Nat.gcd y a → Nat.gcd x b = Nat.gcd y b → x ∣ Nat.lcm a b → x ∣ y := fun x y z1 z2 hx => by
      refine Nat.dvd_trans (key x hx) (Nat.lcm_dvd ?_ ?_)
      · rw [z1]; exact Nat.gcd_dvd_left _ _
      · rw [z2]; exact Nat.gcd_dvd_left _ _
    exact Nat.dvd_antisymm (lt d e e1 e2 hd) (lt e d e1.symm e2.symm he)
  have dl : ∀ n c, 0 < n → Few n c → ((List.range (n + 1)).filter (fun d => decide (d ∣ n))).length ≤ c := fun n c n0 f => f _ (List.nodup_range.filter _) fun d md => of_decide_eq_true (List.mem_filter.mp md).2
  have pl := Nat.mul_le_mul (dl a m a0 ha) (dl b k b0 hb)
  refine Nat.le_trans ?_ pl
  generalize hA : (List.range (a + 1)).filter (fun d => decide (d ∣ a)) = A
  generalize hB : (List.range (b + 1)).filter (fun d => decide (d ∣ b)) = B
  have mA : ∀ d, d ∣ a → d ∈ A := fun d q => hA ▸ List.mem_filter.mpr ⟨List.mem_range.mpr (by have := Nat.le_of_dvd a0 q; omega), decide_eq_true q⟩
  have mB : ∀ d, d ∣ b → d ∈ B := fun d q => hB ▸ List.mem_filter.mpr ⟨List.mem_range.mpr (by have := Nat.le_of_dvd b0 q; omega), decide_eq_true q⟩
  have nd2 : (l.map fun d => (Nat.gcd d a, Nat.gcd d b)).Nodup := by
    refine List.pairwise_map.mpr (List.Pairwise.imp_of_mem ?_ nd)
    intro x y hx hy ne e
    exact ne (inj x y (hl x hx) (hl y hy) (Prod.mk.inj e).1 (Prod.mk.inj e).2)
  have len : (A.flatMap fun x => B.map fun y => (x, y)).length = A.length * B.length := by
    clear mA hA
    induction A with
    | nil => simp
    | cons x A ih => rw [List.flatMap_cons, List.length_append, ih, List.length_map, List.length_cons, Nat.succ_mul]; omega
  have := nd2.length_le_of_subset (l₂ := A.flatMap fun x => B.map fun y => (x, y)) fun p hp => by
    obtain ⟨d, hd, rfl⟩ := List.mem_map.mp hp
    exact List.mem_flatMap.mpr ⟨_, mA _ (Nat.gcd_dvd_right _ _), List.mem_map.mpr ⟨_, mB _ (Nat.gcd_dvd_right _ _), rfl⟩⟩
  rw [List.length_map, len] at this
  exact this
open Classical in
noncomputable def prF (p : Nat → Prop) : V → Option V
  | .int d => if p d.toNat then some (.int d) else none
  | _ => none
open Classical in
theorem prF_at (p : Nat → Prop) (d : Nat) : prF p (.int (d : Int)) = if p d then some (.int (d : Int)) else none := rfl
theorem prF_yes {p : Nat → Prop} {d : Nat} (h : p d) : prF p (.int (d : Int)) = some (.int (d : Int)) := by rw [prF_at, if_pos h]
theorem prF_no {p : Nat → Prop} {d : Nat} (h : ¬ p d) : prF p (.int (d : Int)) = none := by rw [prF_at, if_neg h]
theorem prF_fm (p : Nat → Prop) (ds : List Nat) : ∃ gs : List Nat, (nI ds).filterMap (prF p) = nI gs ∧ (∀ d, d ∈ gs ↔ d ∈ ds ∧ p d) ∧ gs.Sublist ds := by
  induction ds with
  | nil => exact ⟨[], rfl, fun d => by simp, List.Sublist.refl _⟩
  | cons d ds ih =>
    obtain ⟨gs, h1, h2, h3⟩ := ih
    by_cases h : p d
    · refine ⟨d :: gs, ?_, fun x => ?_, h3.cons_cons d⟩
      · show (V.int (d : Int) :: nI ds).filterMap (prF p) = _
        rw [List.filterMap_cons, prF_yes h, h1]
        rfl
      · rw [List.mem_cons, List.mem_cons, h2]
        exact ⟨fun q => q.elim (fun e => ⟨.inl e, e ▸ h⟩) fun q => ⟨.inr q.1, q.2⟩, fun q => q.1.elim .inl fun m => .inr ⟨m, q.2⟩⟩
    · refine ⟨gs, ?_, fun x => ?_, h3.cons d⟩
      · show (V.int (d : Int) :: nI ds).filterMap (prF p) = _
        rw [List.filterMap_cons, prF_no h, h1]
      · rw [List.mem_cons, h2]
        exact ⟨fun q => ⟨.inr q.1, q.2⟩, fun q => q.1.elim (fun e => absurd (e ▸ q.2) h) fun m => ⟨m, q.2⟩⟩
/-- what the sizes in both of two calendars are told by -/
structure AndOk (N1 : Nat) (c1 e1 : List Nat) (N2 : Nat) (c2 e2 : List Nat) (N : Nat) (cs es : List Nat) : Prop where
  dv : N ∣ Nat.lcm N1 N2
  reg : ∀ z, Nat.gcd z N ∈ cs ↔ (Nat.gcd z N1 ∈ c1 ∧ Nat.gcd z N2 ∈ c2)
  ex : ∀ z : Nat, z ∈ es ↔ (z ∈ e1 ∨ z ∈ e2) ∧ ¬ ((InC N1 c1 e1 z ∧ InC N2 c2 e2 z) ↔ (Nat.gcd z N1 ∈ c1 ∧ Nat.gcd z N2 ∈ c2))
  el : es.length ≤ e1.length + e2.length
theorem AndOk.inC {N1 N2 N : Nat} {c1 e1 c2 e2 cs es : List Nat} (h : AndOk N1 c1 e1 N2 c2 e2 N cs es) (z : Int) : InC N cs es z ↔ InC N1 c1 e1 z ∧ InC N2 c2 e2 z := by
  by_cases z1 : 1 ≤ z
  · obtain ⟨w, rfl⟩ : ∃ w : Nat, z = (w : Int) := ⟨z.toNat, by omega⟩
    have f : ∀ {N : Nat} {cs es : List Nat}, InC N cs es (w : Int) ↔ (Nat.gcd w N ∈ cs ↔ ¬ w ∈ es) := fun {N cs es} => ⟨fun q => q.2, fun q => ⟨z1, q⟩⟩
    have hx := h.ex w
    rw [f, f] at hx
    rw [f, f, f, h.reg, hx]
    by_cases a : Nat.gcd w N1 ∈ c1 <;> by_cases b : Nat.gcd w N2 ∈ c2 <;> by_cases c : w ∈ e1 <;> by_cases d : w ∈ e2 <;> simp [a, b, c, d]
  · constructor
    · intro q; exact absurd q.1 z1
    · intro q; exact absurd q.1.1 z1
theorem gcd_gcd_n {x m k : Nat} (h : m ∣ k) : Nat.gcd (Nat.gcd x k) m = Nat.gcd x m := gcd_gcd_dvd h
theorem and_ok {N1 N2 N : Nat} {c1 e1 c2 e2 ds xs cs es : List Nat} (hd : ∀ d, d ∈ ds ↔ d ∣ Nat.lcm N1 N2 ∧ Nat.gcd d N1 ∈ c1 ∧ Nat.gcd d N2 ∈ c2)
    (hx : ∀ z : Nat, z ∈ xs ↔ (z ∈ e1 ∨ z ∈ e2) ∧ ¬ ((InC N1 c1 e1 z ∧ InC N2 c2 e2 z) ↔ (Nat.gcd z N1 ∈ c1 ∧ Nat.gcd z N2 ∈ c2))) (xl : xs.length ≤ e1.length + e2.length)
    (k : CalOk (Nat.lcm N1 N2) ds xs N cs es) : AndOk N1 c1 e1 N2 c2 e2 N cs es := by
  refine ⟨k.dv, fun z => ?_, fun z => ?_, Nat.le_trans (up_len k.eu fun x m => (k.em x).mp m) xl⟩
  · rw [k.reg, hd, gcd_gcd_n (Nat.dvd_lcm_left _ _), gcd_gcd_n (Nat.dvd_lcm_right _ _)]
    exact ⟨fun q => q.2, fun q => ⟨Nat.gcd_dvd_right _ _, q⟩⟩
  · rw [k.em, hx]

local macro_rules | `(tactic| show "mm") => `(tactic| first | assumption | omega | decide)
local macro_rules | `(tactic| show "nn") => `(tactic| first | assumption | ((with_reducible refine' Nat.le_trans (Nat.mul_le_mul ?s1 ?s2) ?s3); (case s1 => (assumption)); (case s2 => (assumption)); (case s3 => (decide))))
/-- what the sizes in one of two calendars are told by -/
structure OrOk (N1 : Nat) (c1 e1 : List Nat) (N2 : Nat) (c2 e2 : List Nat) (N : Nat) (cs es : List Nat) : Prop where
  dv : N ∣ Nat.lcm N1 N2
  reg : ∀ z, Nat.gcd z N ∈ cs ↔ (Nat.gcd z N1 ∈ c1 ∨ Nat.gcd z N2 ∈ c2)
  ex : ∀ z : Nat, z ∈ es ↔ (z ∈ e1 ∨ z ∈ e2) ∧ ¬ ((InC N1 c1 e1 z ∨ InC N2 c2 e2 z) ↔ (Nat.gcd z N1 ∈ c1 ∨ Nat.gcd z N2 ∈ c2))
  inC : ∀ z : Int, InC N cs es z ↔ InC N1 c1 e1 z ∨ InC N2 c2 e2 z
  el : es.length ≤ e1.length + e2.length
theorem or_ok {N1 N2 N : Nat} {c1 e1 c2 e2 d1 d2 cs es cs' : List Nat} (k1 : Canon N1 c1 e1) (k2 : Canon N2 c2 e2) (k3 : Canon N cs es) (h1 : ∀ d, d ∈ d1 ↔ d ∣ N1 ∧ d ∉ c1) (h2 : ∀ d, d ∈ d2 ↔ d ∣ N2 ∧ d ∉ c2) (a : AndOk N1 d1 e1 N2 d2 e2 N cs es) (h3 : ∀ d, d ∈ cs' ↔ d ∣ N ∧ d ∉ cs) : OrOk N1 c1 e1 N2 c2 e2 N cs' es := by
  have r1 : ∀ z, Nat.gcd z N1 ∈ d1 ↔ ¬ Nat.gcd z N1 ∈ c1 := fun z => by rw [h1]; exact ⟨fun q => q.2, fun q => ⟨Nat.gcd_dvd_right _ _, q⟩⟩
  have r2 : ∀ z, Nat.gcd z N2 ∈ d2 ↔ ¬ Nat.gcd z N2 ∈ c2 := fun z => by rw [h2]; exact ⟨fun q => q.2, fun q => ⟨Nat.gcd_dvd_right _ _, q⟩⟩
  have i1 := fun z : Int => not_in k1 h1 z
  have i2 := fun z : Int => not_in k2 h2 z
  refine ⟨a.dv, fun z => ?_, fun z => ?_, fun z => ?_, a.el⟩
  · rw [h3, a.reg, r1, r2]
    have dv := Nat.gcd_dvd_right z N
    by_cases x : Nat.gcd z N1 ∈ c1 <;> by_cases y : Nat.gcd z N2 ∈ c2 <;> simp [x, y, dv]
  · rw [a.ex, i1, i2, r1, r2]
    refine and_congr_right fun m => not_congr ?_
    have z1 : (1 : Int) ≤ (z : Int) := by
      rcases m with m | m
      · have := (k1.ep z m).1; omega
      · have := (k2.ep z m).1; omega
    by_cases x : Nat.gcd z N1 ∈ c1 <;> by_cases y : Nat.gcd z N2 ∈ c2 <;> by_cases u : InC N1 c1 e1 (z : Int) <;> by_cases v : InC N2 c2 e2 (z : Int) <;> simp [x, y, u, v, z1]
  · rw [not_in k3 h3, a.inC, i1, i2]
    have f1 : InC N1 c1 e1 z → 1 ≤ z := fun q => q.1
    have f2 : InC N2 c2 e2 z → 1 ≤ z := fun q => q.1
    by_cases u : InC N1 c1 e1 z <;> by_cases v : InC N2 c2 e2 z <;> by_cases w : 1 ≤ z <;> simp [u, v, w] <;> first | exact absurd (f1 u) w | exact absurd (f2 v) w

def mapF (g : Int → Int) : V → Option V
  | .int i => some (.int (g i))
  | _ => none
theorem rng_map (g : Int → Int) (lo : Int) (n : Nat) : (rngV lo n).filterMap (mapF g) = ((List.range n).map fun k : Nat => g (lo + (k : Int))).map V.int := by
  unfold rngV
  rw [List.filterMap_map, List.map_map, ← List.filterMap_eq_map]
  rfl
theorem o_neN {K : PySem.W.Frag} {H : Hp} {Q : VK} {a b : Addr} {xs ys : List Nat} (h1 : H a = some (.lst (nI xs))) (h2 : H b = some (.lst (nI ys))) (k : Q (.bl (!decide (xs = ys))) H) : rNeD K (.ref a) (.ref b) H Q := by
  refine o_nel h1 h2 (ints_nI xs) (ints_nI ys) ?_
  have e : decide ((xs.map fun d : Nat => (d : Int)) = ys.map fun d : Nat => (d : Int)) = decide (xs = ys) := decide_eq_decide.mpr (List.map_inj_right fun a b z => Int.ofNat.inj z)
  rw [e]
  exact k
theorem o_eqN {K : PySem.W.Frag} {H : Hp} {Q : VK} {a b : Addr} {xs ys : List Nat} (h1 : H a = some (.lst (nI xs))) (h2 : H b = some (.lst (nI ys))) (k : Q (.bl (decide (xs = ys))) H) : rEqD K (.ref a) (.ref b) H Q := by
  refine o_eql h1 h2 (ints_nI xs) (ints_nI ys) ?_
  have e : decide ((xs.map fun d : Nat => (d : Int)) = ys.map fun d : Nat => (d : Int)) = decide (xs = ys) := decide_eq_decide.mpr (List.map_inj_right fun a b z => Int.ofNat.inj z)
  rw [e]
  exact k
local macro_rules | `(tactic| show "op") => `(tactic| first
  | ((with_reducible refine' o_neN ?s1 ?s2 ?nxt); (case s1 => (show "hp")); (case s2 => (show "hp")); (case' nxt => skip))
  | ((with_reducible refine o_or1 ?_); show "op")
  | ((with_reducible refine o_or2 ?_); show "op"))
/-- a law's own set: the parts of its number, its divisors, the chosen ones, the extra sizes -/
structure LSet (H : Hp) (R : Addr) (qs : List (Nat × Nat)) (ds cs xs : List Nat) : Prop where
  ob : ∃ P D C X : Addr, H R = some (.tup [.ref P, .ref D, .ref C, .ref X]) ∧ Prs H P qs ∧ H D = some (.lst (nI ds)) ∧ H C = some (.lst (nI cs)) ∧ H X = some (.lst (nI xs))
theorem LSet.same {H H' : Hp} {R : Addr} {qs : List (Nat × Nat)} {ds cs xs : List Nat} (h : LSet H R qs ds cs xs) (s : Same H H') : LSet H' R qs ds cs xs := by
  obtain ⟨P, D, C, X, h1, h2, h3, h4, h5⟩ := h.ob
  exact ⟨P, D, C, X, s _ _ h1, h2.same s, s _ _ h3, s _ _ h4, s _ _ h5⟩
/-- its lists are none of an older heap's objects -/
def LFr (H H' : Hp) (R : Addr) : Prop := ∀ P D C X : Addr, H' R = some (.tup [.ref P, .ref D, .ref C, .ref X]) → H P = none ∧ H D = none ∧ H C = none ∧ H X = none
def LAp (H : Hp) (R p : Addr) : Prop := ∀ P D C X : Addr, H R = some (.tup [.ref P, .ref D, .ref C, .ref X]) → P ≠ p ∧ D ≠ p ∧ C ≠ p ∧ X ≠ p
theorem LFr.ap {H H' : Hp} {R p : Addr} {o : HO} (h : LFr H H' R) (e : H p = some o) : LAp H' R p := fun P D C X q => by
  obtain ⟨a, b, c, d⟩ := h P D C X q
  exact ⟨fun z => (by rw [z, e] at a; cases a), fun z => (by rw [z, e] at b; cases b), fun z => (by rw [z, e] at c; cases c), fun z => (by rw [z, e] at d; cases d)⟩
theorem LAp.same {H H' : Hp} {R p : Addr} {qs : List (Nat × Nat)} {ds cs xs : List Nat} (h : LAp H R p) (l : LSet H R qs ds cs xs) (s : Same H H') : LAp H' R p := fun P D C X q => by
  obtain ⟨P', D', C', X', h1, _⟩ := l.ob
  have e := s _ _ h1
  rw [q] at e
  cases e
  exact h _ _ _ _ h1
theorem LAp.sb {H H' : Hp} {R p : Addr} {ys : List V} {qs : List (Nat × Nat)} {ds cs xs : List Nat} (h : LAp H R p) (l : LSet H R qs ds cs xs) (s : SB p H H') (hp : H p = some (.lst ys)) : LAp H' R p := fun P D C X q => by
  obtain ⟨P', D', C', X', h1, _⟩ := l.ob
  have e := s _ _ (fun z => by rw [z, hp] at h1; cases h1) h1
  rw [q] at e
  cases e
  exact h _ _ _ _ h1
theorem LSet.sb {H H' : Hp} {R p : Addr} {ys : List V} {qs : List (Nat × Nat)} {ds cs xs : List Nat} (l : LSet H R qs ds cs xs) (h : LAp H R p) (s : SB p H H') (hp : H p = some (.lst ys)) : LSet H' R qs ds cs xs := by
  obtain ⟨P, D, C, X, h1, h2, h3, h4, h5⟩ := l.ob
  obtain ⟨a, b, c, d⟩ := h _ _ _ _ h1
  exact ⟨P, D, C, X, s _ _ (fun z => by rw [z, hp] at h1; cases h1) h1, h2.sb s a hp, s _ _ b h3, s _ _ c h4, s _ _ d h5⟩
/-- what such a set is -/
structure LOk (m lim xl n : Nat) (qs : List (Nat × Nat)) (ds cs xs : List Nat) : Prop where
  ci : CalIn m lim xl n ds cs xs
  pt : Parts qs
  nn : numP qs = n
  dl : ds.length = manyP qs
/-- a set stays while a fresh well is drawn from -/
theorem LSet.fr {H0 H H' : Hp} {R p : Addr} {qs : List (Nat × Nat)} {ds cs xs : List Nat} (h : LSet H0 R qs ds cs xs) (s : Same H0 H) (f : _root_.L3.Fr H0 p) (t : SB p H H') : LSet H' R qs ds cs xs := h.same (SB.same s f t)
local macro_rules | `(tactic| show "lset") => `(tactic| first
  | assumption
  | ((with_reducible refine' LSet.same ?s1 ?s2); (case s2 => assumption); (case s1 => show "lset")))

theorem Prs.app {H H' : Hp} {J : Addr} {as bs : List Addr} {qs rs : List (Nat × Nat)} (h2 : as.length = qs.length) (h3 : ∀ (i : Nat) (a : Addr) (q : Nat × Nat), as[i]? = some a → qs[i]? = some q → H a = some (.tup [.int (q.1 : Int), .int (q.2 : Int)])) (g2 : bs.length = rs.length) (g3 : ∀ (i : Nat) (a : Addr) (q : Nat × Nat), bs[i]? = some a → rs[i]? = some q → H a = some (.tup [.int (q.1 : Int), .int (q.2 : Int)])) (s : Same H H') (hJ : H' J = some (.lst (as.map V.ref ++ bs.map V.ref))) : Prs H' J (qs ++ rs) := by
  refine ⟨as ++ bs, by rw [hJ, List.map_append], by rw [List.length_append, List.length_append, h2, g2], fun i a q e1 e2 => ?_⟩
  rcases Nat.lt_or_ge i as.length with z | z
  · rw [List.getElem?_append_left z] at e1
    rw [List.getElem?_append_left (h2 ▸ z)] at e2
    exact s _ _ (h3 i a q e1 e2)
  · rw [List.getElem?_append_right z] at e1
    rw [List.getElem?_append_right (h2 ▸ z), ← h2] at e2
    exact s _ _ (g3 _ a q e1 e2)

theorem mapF_ints (g : Int → Int) (ws : List Nat) : ∃ us : List Int, (nI ws).filterMap (mapF g) = us.map V.int ∧ (∀ z ∈ us, ∃ d ∈ ws, z = g (d : Int)) ∧ us.length = ws.length := by
  refine ⟨ws.map fun d : Nat => g (d : Int), ?_, fun z m => ?_, List.length_map _⟩
  · rw [List.map_map, nI, List.filterMap_map, ← List.filterMap_eq_map]
    rfl
  · obtain ⟨d, md, rfl⟩ := List.mem_map.mp m
    exact ⟨d, md, rfl⟩
theorem orv_k {P B : Prop} {dP : Decidable P} {dB : Decidable B} {tb : TE} {σ : L2.St} {H : Hp} {Q : VK} (ht : ∀ Q : VK, Q (.bl (decide B)) H → tb σ H Q) (k : Q (.bl (decide (P ∨ B))) H) : OrVR (.bl (decide P)) tb σ H Q := by
  by_cases p : P
  · refine orv_y p ?_
    rw [decide_eq_true (Or.inl p : P ∨ B)] at k
    exact k
  · refine orv_n p (ht _ ?_)
    have e : decide (P ∨ B) = decide B := decide_eq_decide.mpr ⟨fun q => q.elim (fun z => absurd z p) id, .inr⟩
    rw [e] at k
    exact k
theorem parts_len {qs : List (Nat × Nat)} (h : Parts qs) (b : numP qs ≤ 10 ^ 24) : qs.length ≤ 100 := by
  have key : ∀ {l : List (Nat × Nat)}, Parts l → 2 ^ l.length ≤ numP l := by
    intro l
    induction l using snoc_ind with
    | h0 => intro _; exact Nat.le_refl 1
    | hs l q ih =>
      intro hl
      obtain ⟨a, b⟩ := hl.pr q (List.mem_append_right _ (List.mem_singleton.mpr rfl))
      rw [numP_snoc, List.length_append, List.length_singleton, Nat.pow_succ]
      refine Nat.mul_le_mul (ih hl.left) ?_
      have := Nat.pow_le_pow_right (n := q.1) (by have := a.1; omega) b
      rw [Nat.pow_one] at this
      exact Nat.le_trans a.1 this
  have := key h
  apply Classical.byContradiction
  intro w
  have := Nat.pow_le_pow_right (n := 2) (by decide) (show 101 ≤ qs.length by omega)
  have : (10 : Nat) ^ 24 < 2 ^ 101 := by decide
  omega

local macro_rules | `(tactic| show "step2") => `(tactic| first
  | (with_reducible refine g_forv ?_))
noncomputable def w0 (cs : List Nat) : Nat → Int := fun d => @ite Int (d ∈ cs) (Classical.propDecidable _) 1 0
theorem w0_y {cs : List Nat} {d : Nat} (h : d ∈ cs) : w0 cs d = 1 := by unfold w0; rw [if_pos h]
theorem w0_n {cs : List Nat} {d : Nat} (h : ¬ d ∈ cs) : w0 cs d = 0 := by unfold w0; rw [if_neg h]
theorem w0_small (cs : List Nat) (d : Nat) : (w0 cs d).natAbs ≤ 1 := by
  by_cases h : d ∈ cs
  · rw [w0_y h]; decide
  · rw [w0_n h]; decide
def dW (ds : List Nat) (w : Nat → Int) : List (Key × V) := ds.map fun d : Nat => (Sum.inl (d : Int), V.int (w d))
theorem dW_len (ds : List Nat) (w : Nat → Int) : (dW ds w).length = ds.length := List.length_map _
theorem dW_val (ds : List Nat) (w : Nat → Int) (z : Nat) : valV (dW ds w) (Sum.inl (z : Int)) = if z ∈ ds then some (V.int (w z)) else none := by
  induction ds with
  | nil => rfl
  | cons d ds ih =>
    by_cases e : d = z
    · subst e
      rw [if_pos List.mem_cons_self]
      exact valV_pos rfl
    · have : valV (dW (d :: ds) w) (Sum.inl (z : Int)) = valV (dW ds w) (Sum.inl (z : Int)) := valV_neg fun q => e (Int.ofNat.inj (Sum.inl.inj q))
      rw [this, ih]
      have : (z ∈ d :: ds) ↔ z ∈ ds := by
        rw [List.mem_cons]
        exact ⟨fun q => q.elim (fun k => absurd k.symm e) id, .inr⟩
      simp only [this]
theorem dW_put {ds : List Nat} {w : Nat → Int} {z : Nat} {v : Int} (h : z ∈ ds) : putK (dW ds w) (Sum.inl (z : Int)) (V.int v) = dW ds (fun d => if d = z then v else w d) := by
  unfold putK
  rw [valV_any, dW_val, if_pos h]
  show (dW ds w).map _ = _
  unfold dW
  rw [List.map_map]
  refine List.map_congr_left fun d _ => ?_
  show (if (Sum.inl (d : Int) : Key) = Sum.inl (z : Int) then ((Sum.inl (d : Int) : Key), V.int v) else (Sum.inl (d : Int), V.int (w d))) = (Sum.inl (d : Int), V.int (if d = z then v else w d))
  by_cases q : d = z
  · subst q
    simp
  · have q2 : ¬ ((Sum.inl (d : Int) : Key) = Sum.inl (z : Int)) := fun k => q (Int.ofNat.inj (Sum.inl.inj k))
    rw [if_neg q2, if_neg q]
theorem dW_made {ds : List Nat} {w : Nat → Int} (nd : ds.Nodup) : madeD (dW ds w) = dW ds w := by
  induction ds using snoc_ind with
  | h0 => rfl
  | hs ds d ih =>
    obtain ⟨n1, _, n3⟩ := List.pairwise_append.mp nd
    have nm : ¬ d ∈ ds := fun m => n3 d m d (List.mem_singleton.mpr rfl) rfl
    have e : dW (ds ++ [d]) w = dW ds w ++ [(Sum.inl (d : Int), V.int (w d))] := by unfold dW; rw [List.map_append]; rfl
    rw [e, madeD_snoc, ih n1]
    exact putK_new _ (by rw [dW_val, if_neg nm])
noncomputable def ifF (cs : List Nat) : V → Option (Key × V)
  | .int d => some (Sum.inl d, .int (w0 cs d.toNat))
  | _ => none
theorem ifF_fm (cs ds : List Nat) : (nI ds).filterMap (ifF cs) = dW ds (w0 cs) := by
  rw [nI, List.filterMap_map, dW, ← List.filterMap_eq_map]
  rfl
/-- a list of pairs of divisors and weights -/
structure WPrs (H : Hp) (P : Addr) (ws : List (Nat × Int)) : Prop where
  ob : ∃ as : List Addr, H P = some (.lst (as.map V.ref)) ∧ as.length = ws.length ∧ ∀ (i : Nat) (a : Addr) (q : Nat × Int), as[i]? = some a → ws[i]? = some q → H a = some (.tup [.int (q.1 : Int), .int q.2])
theorem WPrs.same {H H' : Hp} {P : Addr} {ws : List (Nat × Int)} (h : WPrs H P ws) (s : Same H H') : WPrs H' P ws := by
  obtain ⟨as, h1, h2, h3⟩ := h.ob
  exact ⟨as, s _ _ h1, h2, fun i a q e1 e2 => s _ _ (h3 i a q e1 e2)⟩
theorem WPrs.snoc {H H2 : Hp} {P A : Addr} {ws : List (Nat × Int)} {p : Nat} {k : Int} {as : List Addr} (h2 : as.length = ws.length) (h3 : ∀ (i : Nat) (a : Addr) (q : Nat × Int), as[i]? = some a → ws[i]? = some q → H a = some (.tup [.int (q.1 : Int), .int q.2])) (t : H A = some (.tup [.int (p : Int), .int k])) (s : SB P H H2) (h1 : H P = some (.lst (as.map V.ref))) : ∀ (i : Nat) (a : Addr) (q : Nat × Int), (as ++ [A])[i]? = some a → (ws ++ [(p, k)])[i]? = some q → H2 a = some (.tup [.int (q.1 : Int), .int q.2]) := by
  have ne : ∀ {a : Addr} {xs : List V}, H a = some (.tup xs) → a ≠ P := fun {a xs} e z => by rw [z, h1] at e; cases e
  intro i a q e1 e2
  rcases Nat.lt_or_ge i as.length with z | z
  · rw [List.getElem?_append_left z] at e1
    rw [List.getElem?_append_left (h2 ▸ z)] at e2
    have := h3 i a q e1 e2
    exact s _ _ (ne this) this
  · rw [List.getElem?_append_right z] at e1
    rw [List.getElem?_append_right (h2 ▸ z)] at e2
    have i0 : i - as.length = 0 := by
      apply Classical.byContradiction
      intro w
      rw [List.getElem?_eq_none (by simp only [List.length_singleton]; omega)] at e1
      cases e1
    rw [i0] at e1
    rw [← h2, i0] at e2
    obtain rfl := Option.some.inj e1
    obtain rfl := Option.some.inj e2
    exact s _ _ (ne t) t
theorem dW_congr {ds : List Nat} {w v : Nat → Int} (h : ∀ d ∈ ds, w d = v d) : dW ds w = dW ds v := by
  unfold dW
  refine List.map_congr_left fun d m => ?_
  rw [h d m]
theorem up_drop {ds : List Nat} (up : ds.Pairwise (· < ·)) {i d : Nat} (h : ds[i]? = some d) : ds.drop i = d :: ds.drop (i + 1) ∧ ∀ e ∈ ds.drop (i + 1), d < e := by
  obtain ⟨il, hd⟩ := List.getElem?_eq_some_iff.mp h
  refine ⟨by rw [List.drop_eq_getElem_cons il, hd], fun e m => ?_⟩
  obtain ⟨j, hj⟩ := List.mem_iff_getElem?.mp m
  rw [List.getElem?_drop] at hj
  obtain ⟨jl, he⟩ := List.getElem?_eq_some_iff.mp hj
  have := List.pairwise_iff_getElem.mp up i (i + 1 + j) il jl (by omega)
  rw [hd, he] at this
  exact this
local macro_rules | `(tactic| show "wprs") => `(tactic| first
  | assumption
  | ((with_reducible refine' WPrs.same ?s1 ?s2); (case s2 => assumption); (case s1 => show "wprs")))
noncomputable def wl (ds : List Nat) (w : Nat → Int) : List (Nat × Int) := (ds.filter fun d => decide (w d ≠ 0)).map fun d => (d, w d)
theorem wl_snoc (l : List Nat) (d : Nat) (w : Nat → Int) : wl (l ++ [d]) w = if w d = 0 then wl l w else wl l w ++ [(d, w d)] := by
  unfold wl
  rw [List.filter_append, List.map_append, List.filter_cons, List.filter_nil]
  by_cases h : w d = 0
  · rw [if_pos h, if_neg (by rw [decide_eq_false (fun k => k h)]; exact Bool.false_ne_true)]
    simp
  · rw [if_neg h, if_pos (decide_eq_true h)]
    rfl
theorem wl_len (l : List Nat) (w : Nat → Int) : (wl l w).length ≤ l.length := by
  unfold wl
  rw [List.length_map]
  exact List.length_filter_le _ _

theorem wl_mem {ds : List Nat} {w : Nat → Int} {q : Nat × Int} (h : q ∈ wl ds w) : q.1 ∈ ds ∧ q.2 = w q.1 := by
  obtain ⟨d, md, rfl⟩ := List.mem_map.mp h
  exact ⟨(List.mem_filter.mp md).1, rfl⟩
theorem inC_nat {N : Nat} {cs es : List Nat} {z : Nat} (h : 1 ≤ z) : InC N cs es (z : Int) ↔ (Nat.gcd z N ∈ cs ↔ ¬ z ∈ es) :=
  ⟨fun q => q.2, fun q => ⟨by omega, q⟩⟩
theorem counted {N l : Nat} {cs es ds ps : List Nat} (can : Canon N cs es) (hds : AllDivs N ds) (hps : Primes N ps) :
    ((wl ds (wts ps (w0 cs))).map fun q => q.2 * ((l : Int) / (q.1 : Int))).sum + ((es.filter fun z => decide (z ≤ l)).map fun z => if Nat.gcd z N ∈ cs then (-1 : Int) else 1).sum = cnt (fun z => InC N cs es (z : Int)) l := by
  have e1 : ((wl ds (wts ps (w0 cs))).map fun q => q.2 * ((l : Int) / (q.1 : Int))).sum = sm ds fun d => wts ps (w0 cs) d * ((l / d : Nat) : Int) := by
    unfold wl
    rw [List.map_map]
    show sm (ds.filter fun d => decide (wts ps (w0 cs) d ≠ 0)) (fun d => wts ps (w0 cs) d * ((l : Int) / (d : Int))) = _
    rw [← sm_if (fun d => wts ps (w0 cs) d ≠ 0)]
    refine sm_congr fun d _ => ?_
    by_cases h : wts ps (w0 cs) d ≠ 0
    · rw [if_pos h]; rfl
    · rw [if_neg h, Classical.not_not.mp h, Int.zero_mul]
  have e2 : (sm ds fun d => wts ps (w0 cs) d * ((l / d : Nat) : Int)) = cnt (fun z => Nat.gcd z N ∈ cs) l := wts_cnt can.n1 hds hps (fun d => d ∈ cs) l
  have e3 := cnt_toggle (S := fun z => Nat.gcd z N ∈ cs) (can.eu.imp fun {a b} q => Nat.ne_of_lt q) (fun z m => (can.ep z m).1) l
  have e4 : cnt (fun z => InC N cs es (z : Int)) l = cnt (fun z => Nat.gcd z N ∈ cs ↔ ¬ z ∈ es) l := cnt_congr fun z z1 _ => inC_nat z1
  rw [e1, e2, e4, e3]
  congr 1
  refine sm_congr fun z _ => ?_
  by_cases h : Nat.gcd z N ∈ cs
  · rw [if_pos h, if_pos h]
  · rw [if_neg h, if_neg h]
theorem counted0 {N l : Nat} {cs es ds ps : List Nat} (can : Canon N cs es) (hds : AllDivs N ds) (hps : Primes N ps) :
    ((wl ds (wts ps (w0 cs))).map fun q => q.2 * ((l : Int) / (q.1 : Int))).sum = cnt (fun z => Nat.gcd z N ∈ cs) l := by
  have e1 : ((wl ds (wts ps (w0 cs))).map fun q => q.2 * ((l : Int) / (q.1 : Int))).sum = sm ds fun d => wts ps (w0 cs) d * ((l / d : Nat) : Int) := by
    unfold wl
    rw [List.map_map]
    show sm (ds.filter fun d => decide (wts ps (w0 cs) d ≠ 0)) (fun d => wts ps (w0 cs) d * ((l : Int) / (d : Int))) = _
    rw [← sm_if (fun d => wts ps (w0 cs) d ≠ 0)]
    refine sm_congr fun d _ => ?_
    by_cases h : wts ps (w0 cs) d ≠ 0
    · rw [if_pos h]; rfl
    · rw [if_neg h, Classical.not_not.mp h, Int.zero_mul]
  rw [e1]
  exact wts_cnt can.n1 hds hps (fun d => d ∈ cs) l
def chF (N : Nat) (cs : List Nat) (l : Nat) : V → Option V
  | .int z => if z ≤ (l : Int) then some (.int (if Nat.gcd z.toNat N ∈ cs then -1 else 1)) else none
  | _ => none
theorem chF_fm (N : Nat) (cs : List Nat) (l : Nat) (es : List Nat) : (nI es).filterMap (chF N cs l) = (((es.filter fun z => decide (z ≤ l)).map fun z => if Nat.gcd z N ∈ cs then (-1 : Int) else 1)).map V.int := by
  induction es with
  | nil => rfl
  | cons z es ih =>
    show (V.int (z : Int) :: nI es).filterMap (chF N cs l) = _
    rw [List.filterMap_cons, ih, List.filter_cons]
    by_cases h : z ≤ l
    · have e : chF N cs l (.int (z : Int)) = some (.int (if Nat.gcd z N ∈ cs then -1 else 1)) := by
        show (if (z : Int) ≤ (l : Int) then _ else _) = _
        rw [if_pos (by omega)]
        rfl
      rw [e, if_pos (decide_eq_true h)]
      rfl
    · have e : chF N cs l (.int (z : Int)) = none := by
        show (if (z : Int) ≤ (l : Int) then _ else _) = _
        rw [if_neg (by omega)]
      rw [e, if_neg (by rw [decide_eq_false h]; exact Bool.false_ne_true)]

theorem mapF_fm (g : Int → Int) (ws : List Nat) : (nI ws).filterMap (mapF g) = (ws.map fun d : Nat => g (d : Int)).map V.int := by
  rw [List.map_map, nI, List.filterMap_map, ← List.filterMap_eq_map]
  rfl
theorem mapF_mul (p : Nat) (ws : List Nat) : (nI ws).filterMap (mapF fun t => (p : Int) * t) = nI (ws.map (p * ·)) := by
  rw [mapF_fm, nI, List.map_map, List.map_map]
  rfl
open Classical in
noncomputable def togS (n : Nat) (cs : List Nat) (l : Nat) (es : List Nat) : Int := sm (es.filter fun z => decide (z ≤ l)) fun z => if Nat.gcd z n ∈ cs then -1 else 1
open Classical in
theorem togS_eq (n : Nat) (cs : List Nat) (l : Nat) (es : List Nat) : togS n cs l es = sm (es.filter fun z => decide (z ≤ l)) fun z => if Nat.gcd z n ∈ cs then -1 else 1 := rfl
theorem togS_nil (n : Nat) (cs : List Nat) (l : Nat) : togS n cs l [] = 0 := rfl
theorem sm_snoc (a : List Nat) (d : Nat) (w : Nat → Int) : sm (a ++ [d]) w = sm a w + w d := by
  unfold sm
  rw [List.map_append, List.sum_append, List.map_cons, List.map_nil, List.sum_cons, List.sum_nil]
  omega
theorem togS_a {n l z : Nat} {cs es : List Nat} (h : z ≤ l) (m : Nat.gcd z n ∈ cs) : togS n cs l (es ++ [z]) = togS n cs l es - 1 := by
  unfold togS
  rw [List.filter_append, List.filter_cons, if_pos (decide_eq_true h), List.filter_nil, sm_snoc, if_pos m]
  omega
theorem togS_b {n l z : Nat} {cs es : List Nat} (h : z ≤ l) (m : ¬ Nat.gcd z n ∈ cs) : togS n cs l (es ++ [z]) = togS n cs l es + 1 := by
  unfold togS
  rw [List.filter_append, List.filter_cons, if_pos (decide_eq_true h), List.filter_nil, sm_snoc, if_neg m]
theorem togS_c {n l z : Nat} {cs es : List Nat} (h : ¬ z ≤ l) : togS n cs l (es ++ [z]) = togS n cs l es := by
  unfold togS
  rw [List.filter_append, List.filter_cons, if_neg (by rw [decide_eq_false h]; exact Bool.false_ne_true), List.filter_nil, List.append_nil]
theorem cnt_add (S : Nat → Prop) (a b : Nat) : cnt S (a + b) = cnt S a + cnt (fun z => S (z + a)) b := by
  induction b with
  | zero => rw [Nat.add_zero, _root_.L3.cnt_zero]; omega
  | succ b ih =>
    rw [← Nat.add_assoc, cnt_succ, cnt_succ, ih]
    have e : b + 1 + a = a + b + 1 := by omega
    rw [e]
    omega
theorem cnt_per {S : Nat → Prop} {N : Nat} (h : ∀ z, S (z + N) ↔ S z) (k : Nat) : cnt S (k * N) = (k : Int) * cnt S N := by
  induction k with
  | zero => rw [Nat.zero_mul, _root_.L3.cnt_zero]; simp
  | succ k ih =>
    have p : ∀ j z, S (z + j * N) ↔ S z := fun j => by
      induction j with
      | zero => intro z; rw [Nat.zero_mul, Nat.add_zero]
      | succ j jh => intro z; rw [Nat.succ_mul, ← Nat.add_assoc, h, jh]
    rw [Nat.succ_mul, cnt_add, ih, cnt_congr (S := fun z => S (z + k * N)) (R := S) (fun z _ _ => p k z)]
    push_cast
    rw [Int.add_mul, Int.one_mul]
theorem share_ok {n N : Nat} {cs xs cc ce : List Nat} (ok : CalOk n cs xs N cc ce) {t b : Int} (e : t * (N : Int) = cnt (fun z => Nat.gcd z N ∈ cc) N * b) : t * (n : Int) = cnt (fun z => Nat.gcd z n ∈ cs) n * b := by
  obtain ⟨k, hk⟩ := ok.dv
  have e1 : cnt (fun z => Nat.gcd z n ∈ cs) n = cnt (fun z => Nat.gcd z N ∈ cc) n := cnt_congr fun z _ _ => (ok.reg z).symm
  have e2 : cnt (fun z => Nat.gcd z N ∈ cc) (k * N) = (k : Int) * cnt (fun z => Nat.gcd z N ∈ cc) N := cnt_per (fun z => by rw [Nat.gcd_add_self_left]) k
  have e3 : n = k * N := by rw [hk, Nat.mul_comm]
  rw [e1, e3, e2]
  push_cast
  grind
theorem parts_two {qs : List (Nat × Nat)} (h : Parts qs) : 2 ^ qs.length ≤ manyP qs := by
  induction qs using snoc_ind with
  | h0 => exact Nat.le_refl 1
  | hs l q ih =>
    have := (h.pr q (List.mem_append_right _ (List.mem_singleton.mpr rfl))).2
    rw [manyP_snoc, List.length_append, List.length_singleton, Nat.pow_succ]
    exact Nat.mul_le_mul (ih h.left) (by omega)
theorem parts_11 {qs : List (Nat × Nat)} (h : Parts qs) (b : manyP qs ≤ 4000) : qs.length ≤ 11 := by
  have := parts_two h
  apply Classical.byContradiction
  intro w
  have : 2 ^ 12 ≤ 2 ^ qs.length := Nat.pow_le_pow_right (by decide) (by omega)
  omega

theorem tru_dI0 {K : PySem.W.Frag} {H : Hp} {a : Addr} {Q : Bool → Hp → Prop} (e : H a = some (.dK (dI []))) (h : Q false H) : TruR K (.ref a) H Q := ⟨_, .inr (.inr ⟨_, e, rfl⟩), h⟩
theorem tru_dI1 {K : PySem.W.Frag} {H : Hp} {a : Addr} {ks : List Nat} {Q : Bool → Hp → Prop} (e : H a = some (.dK (dI ks))) (n : ks ≠ []) (h : Q true H) : TruR K (.ref a) H Q := by
  cases ks with
  | nil => exact absurd rfl n
  | cons d ks => exact ⟨_, .inr (.inr ⟨_, e, rfl⟩), h⟩
theorem b_lenD {H : Hp} {a : Addr} {ks : List Nat} {Q : VK} (e : H a = some (.dK (dI ks))) (h : Q (.int (ks.length : Int)) H) : rLenD [.ref a] H Q := by
  refine ⟨a, _, rfl, e, ?_⟩
  have z : (dI ks).length = ks.length := by simp [dI]
  rw [z]
  exact h
local macro_rules | `(tactic| show "step2") => `(tactic| first
  | (((with_reducible refine' b_lenD ?s1 ?nxt); (case s1 => (show "hp")); (case' nxt => skip)))
  | (((with_reducible refine' tru_dI0 ?s1 ?nxt); (case s1 => (show "hp")); (case' nxt => skip)))
  | (((with_reducible refine' tru_dI1 ?s1 ?s2 ?nxt); (case s1 => (show "hp")); (case s2 => (assumption)); (case' nxt => skip))))

/-- what the first size is -/
def FirstV (N : Nat) (cs es : List Nat) (v : V) : Prop := (cs = [] ∧ es = [] ∧ v = .non) ∨ (¬ (cs = [] ∧ es = []) ∧ ∃ l : Nat, v = .int (l : Int) ∧ 1 ≤ l ∧ Sz 400 (l : Int) ∧ InC N cs es (l : Int) ∧ ∀ z : Nat, z < l → ¬ InC N cs es (z : Int))
theorem CalOk.nil {n N : Nat} {cs xs cc ce : List Nat} (ok : CalOk n cs xs N cc ce) (hd : ∀ d ∈ cs, d ∣ n) : cc = [] ↔ cs = [] := by
  constructor
  · intro z
    refine List.eq_nil_iff_forall_not_mem.mpr fun d m => ?_
    have q := (ok.gc d).mpr (by rw [Nat.gcd_eq_left (hd d m)]; exact m)
    have q2 := (ok.cm (Nat.gcd d N)).mpr ⟨q, Nat.gcd_dvd_right _ _⟩
    rw [z] at q2
    exact List.not_mem_nil q2
  · intro z
    refine List.eq_nil_iff_forall_not_mem.mpr fun d m => ?_
    have := ((ok.cm d).mp m).1
    rw [z] at this
    exact List.not_mem_nil this
theorem CalOk.nile {n N : Nat} {cs xs cc ce : List Nat} (ok : CalOk n cs xs N cc ce) : ce = [] ↔ xs = [] := by
  constructor
  · intro z
    refine List.eq_nil_iff_forall_not_mem.mpr fun d m => ?_
    have := (ok.em d).mpr m
    rw [z] at this
    exact List.not_mem_nil this
  · intro z
    refine List.eq_nil_iff_forall_not_mem.mpr fun d m => ?_
    have := (ok.em d).mp m
    rw [z] at this
    exact List.not_mem_nil this
theorem FirstV.of {n N : Nat} {cs xs cc ce : List Nat} {v : V} (ok : CalOk n cs xs N cc ce) (hd : ∀ d ∈ cs, d ∣ n) (h : FirstV N cc ce v) : FirstV n cs xs v := by
  have e1 := ok.nil hd
  have e2 := ok.nile
  rcases h with ⟨a, b, c⟩ | ⟨a, l, b, c, d, e, f⟩
  · exact .inl ⟨e1.mp a, e2.mp b, c⟩
  · exact .inr ⟨fun q => a ⟨e1.mpr q.1, e2.mpr q.2⟩, l, b, c, d, (ok.inC _).mp e, fun z zl q => f z zl ((ok.inC _).mpr q)⟩
theorem cnt_least {S : Nat → Prop} {l : Nat} (s : S l) (h : cnt S l = 1) (z : Nat) (z1 : 1 ≤ z) (zl : z < l) : ¬ S z := fun q => by
  have a := cnt_hit (a := 0) (b := z) q (by omega) (Nat.le_refl _)
  have b := cnt_hit (a := z) (b := l) s zl (Nat.le_refl _)
  rw [_root_.L3.cnt_zero] at a
  omega

/-- what the first size is that is in one and not in another -/
def OutV (N1 : Nat) (c1 e1 : List Nat) (N2 : Nat) (c2 e2 : List Nat) (v : V) : Prop :=
  (v = .non ∧ ∀ z : Nat, InC N1 c1 e1 (z : Int) → InC N2 c2 e2 (z : Int)) ∨
  ∃ l : Nat, v = .int (l : Int) ∧ 1 ≤ l ∧ Sz 400 (l : Int) ∧ InC N1 c1 e1 (l : Int) ∧ ¬ InC N2 c2 e2 (l : Int) ∧ ∀ z : Nat, z < l → InC N1 c1 e1 (z : Int) → InC N2 c2 e2 (z : Int)
theorem OutV.of {n1 N1 n2 N2 : Nat} {cs1 xs1 c1 e1 cs2 xs2 c2 e2 : List Nat} {v : V} (ok1 : CalOk n1 cs1 xs1 N1 c1 e1) (ok2 : CalOk n2 cs2 xs2 N2 c2 e2) (h : OutV N1 c1 e1 N2 c2 e2 v) : OutV n1 cs1 xs1 n2 cs2 xs2 v := by
  rcases h with ⟨a, b⟩ | ⟨l, a, b, c, d, e, f⟩
  · exact .inl ⟨a, fun z q => (ok2.inC _).mp (b z ((ok1.inC _).mpr q))⟩
  · exact .inr ⟨l, a, b, c, (ok1.inC _).mp d, fun q => e ((ok2.inC _).mpr q), fun z zl q => (ok2.inC _).mp (f z zl ((ok1.inC _).mpr q))⟩
theorem outV_mk {N1 N2 N : Nat} {c1 e1 c2 e2 d2 cs es : List Nat} {v : V} (k2 : Canon N2 c2 e2) (h2 : ∀ d, d ∈ d2 ↔ d ∣ N2 ∧ d ∉ c2) (a : AndOk N1 c1 e1 N2 d2 e2 N cs es) (h : FirstV N cs es v) : OutV N1 c1 e1 N2 c2 e2 v := by
  have key : ∀ z : Nat, InC N cs es (z : Int) ↔ InC N1 c1 e1 (z : Int) ∧ ¬ InC N2 c2 e2 (z : Int) := fun z => by
    rw [a.inC, not_in k2 h2]
    exact ⟨fun q => ⟨q.1, q.2.2⟩, fun q => ⟨q.1, q.1.1, q.2⟩⟩
  rcases h with ⟨x, y, w⟩ | ⟨_, l, x, y, w, u, t⟩
  · subst x y
    refine .inl ⟨w, fun z q => Classical.byContradiction fun r => ?_⟩
    have := (key z).mpr ⟨q, r⟩
    have z2 := this.2
    exact List.not_mem_nil (z2.mpr List.not_mem_nil)
  · exact .inr ⟨l, x, y, w, ((key l).mp u).1, ((key l).mp u).2, fun z zl q => Classical.byContradiction fun r => t z zl ((key z).mpr ⟨q, r⟩)⟩
/-- beyond the extra sizes each class has a size -/
theorem class_far {L : Nat} (L1 : 1 ≤ L) (d : Nat) (xs : List Nat) : ∃ z : Nat, 1 ≤ z ∧ z ∉ xs ∧ ∀ N, N ∣ L → Nat.gcd z N = Nat.gcd d N := by
  have big : ∃ b : Nat, ∀ x ∈ xs, x < b := by
    induction xs with
    | nil => exact ⟨0, fun x m => absurd m List.not_mem_nil⟩
    | cons y r ih =>
      obtain ⟨b, hb⟩ := ih
      exact ⟨b + y + 1, fun x m => by rcases List.mem_cons.mp m with rfl | m; · omega
                                      · have := hb x m; omega⟩
  obtain ⟨b, hb⟩ := big
  refine ⟨d + (b + 1) * L, ?_, fun m => ?_, fun N h => ?_⟩
  · have : 1 * 1 ≤ (b + 1) * L := Nat.mul_le_mul (by omega) L1
    omega
  · have := hb _ m
    have : (b + 1) * 1 ≤ (b + 1) * L := Nat.mul_le_mul (Nat.le_refl _) L1
    omega
  · obtain ⟨k, rfl⟩ := h
    rw [show d + (b + 1) * (N * k) = d + N * ((b + 1) * k) by grind, Nat.gcd_add_mul_left_left]
theorem asc_sub {a b : List Nat} (ha : a.Pairwise (· < ·)) (hb : b.Pairwise (· < ·)) (h : ∀ x ∈ a, x ∈ b) : a.Sublist b := by
  have e : a = b.filter fun x => decide (x ∈ a) := up_unique ha (hb.filter _) fun d => by
    rw [List.mem_filter, decide_eq_true_iff]
    exact ⟨fun q => ⟨h d q, q⟩, fun q => q.2⟩
  rw [e]
  exact List.filter_sublist
theorem cut_nI (zs : List Nat) (lo hi : Option Int) : ∃ ws : List Nat, cutV (nI zs) lo hi = nI ws ∧ (∀ w ∈ ws, w ∈ zs) ∧ ws.length ≤ zs.length := by
  unfold cutV
  refine ⟨(zs.drop (HT.sIx (nI zs).length 0 lo)).take (HT.sIx (nI zs).length (nI zs).length hi - HT.sIx (nI zs).length 0 lo), by rw [nI, nI, List.map_take, List.map_drop], fun w m => List.mem_of_mem_drop (List.mem_of_mem_take m), ?_⟩
  rw [List.length_take, List.length_drop]
  omega

theorem canon_eq {N1 N2 : Nat} {c1 e1 c2 e2 : List Nat} (k1 : Canon N1 c1 e1) (k2 : Canon N2 c2 e2) (h : ∀ z : Int, InC N1 c1 e1 z ↔ InC N2 c2 e2 z) : N1 = N2 ∧ c1 = c2 ∧ e1 = e2 := by
  have reg : ∀ x : Nat, Nat.gcd x N1 ∈ c1 ↔ Nat.gcd x N2 ∈ c2 := fun x => by
    obtain ⟨z, z1, zx, hz⟩ := class_far (L := N1 * N2) (Nat.mul_pos k1.n1 k2.n1) x (e1 ++ e2)
    have a := h (z : Int)
    have x1 : z ∉ e1 := fun w => zx (List.mem_append_left _ w)
    have x2 : z ∉ e2 := fun w => zx (List.mem_append_right _ w)
    rw [inC_nat z1, inC_nat z1, hz N1 (Nat.dvd_mul_right _ _), hz N2 (Nat.dvd_mul_left _ _)] at a
    exact ⟨fun q => (a.mp ⟨fun _ => x1, fun _ => q⟩).mpr x2, fun q => (a.mpr ⟨fun _ => x2, fun _ => q⟩).mpr x1⟩
  have eN : N1 = N2 := Least.unique k1.n1 k2.n1 k1.le (k2.le.congr fun z => (reg z).symm)
  subst eN
  refine ⟨rfl, up_unique k1.cu k2.cu fun d => ?_, up_unique k1.eu k2.eu fun d => ?_⟩
  · constructor
    · intro q
      have := (reg d).mp (by rw [Nat.gcd_eq_left (k1.cd d q)]; exact q)
      rw [Nat.gcd_eq_left (k1.cd d q)] at this
      exact this
    · intro q
      have := (reg d).mpr (by rw [Nat.gcd_eq_left (k2.cd d q)]; exact q)
      rw [Nat.gcd_eq_left (k2.cd d q)] at this
      exact this
  · have f : 1 ≤ d → (d ∈ e1 ↔ d ∈ e2) := fun d1 => by
      have a := h (d : Int)
      rw [inC_nat d1, inC_nat d1, reg d] at a
      by_cases x : Nat.gcd d N1 ∈ c2 <;> by_cases y : d ∈ e1 <;> by_cases w : d ∈ e2 <;> simp [x, y, w] at a ⊢
    exact ⟨fun q => (f (k1.ep d q).1).mp q, fun q => (f (k2.ep d q).1).mpr q⟩
/-- a calendar as a set of sizes -/
structure CalS (C : Addr) (H : Hp) (r : Addr) (S : Int → Prop) (m B L : Nat) : Prop where
  ob : ∃ N cs es, Cal C H r N cs es ∧ Few N m ∧ N ≤ B ∧ es.length ≤ L ∧ ∀ z, InC N cs es z ↔ S z
theorem CalS.same {C : Addr} {H H' : Hp} {r : Addr} {S : Int → Prop} {m B L : Nat} (h : CalS C H r S m B L) (s : Same H H') : CalS C H' r S m B L := by
  obtain ⟨N, cs, es, a, b⟩ := h.ob
  exact ⟨N, cs, es, a.same s, b⟩
theorem CalS.sb {C : Addr} {H H' : Hp} {r p : Addr} {xs : List V} {S : Int → Prop} {m B L : Nat} (h : CalS C H r S m B L) (s : SB p H H') (hp : H p = some (.lst xs)) : CalS C H' r S m B L := by
  obtain ⟨N, cs, es, a, b⟩ := h.ob
  exact ⟨N, cs, es, a.sb s hp, b⟩
theorem CalS.pos {C : Addr} {H : Hp} {r : Addr} {S : Int → Prop} {m B L : Nat} (h : CalS C H r S m B L) {z : Int} (s : S z) : 1 ≤ z := by
  obtain ⟨N, cs, es, _, _, _, _, e⟩ := h.ob
  exact ((e z).mpr s).1
theorem CalS.of {C : Addr} {H : Hp} {r : Addr} {n m lim xl N : Nat} {ds cs xs cc ce : List Nat} (ci : CalIn m lim xl n ds cs xs) (c : Cal C H r N cc ce) (ok : CalOk n cs xs N cc ce) : CalS C H r (InC n cs xs) m lim xl :=
  ⟨N, cc, ce, c, Few.dvd ci.few ok.dv, Nat.le_trans (Nat.le_of_dvd ci.n1 ok.dv) ci.nm, Nat.le_trans (up_len ok.eu fun x m => (ok.em x).mp m) ci.xn, ok.inC⟩
theorem CalS.congr {C : Addr} {H : Hp} {r : Addr} {S R : Int → Prop} {m B L : Nat} (h : CalS C H r S m B L) (e : ∀ z, S z ↔ R z) : CalS C H r R m B L := by
  obtain ⟨N, cs, es, a, b, c, d, f⟩ := h.ob
  exact ⟨N, cs, es, a, b, c, d, fun z => (f z).trans (e z)⟩
/-- what the first size of a set is -/
def FirS (S : Int → Prop) (v : V) : Prop := (v = .non ∧ ∀ z : Nat, ¬ S (z : Int)) ∨ ∃ l : Nat, v = .int (l : Int) ∧ 1 ≤ l ∧ Sz 400 (l : Int) ∧ S (l : Int) ∧ ∀ z : Nat, z < l → ¬ S (z : Int)
theorem FirS.uniq {S R : Int → Prop} {v u : V} (h : FirS S v) (g : FirS R u) (e : ∀ z : Nat, S (z : Int) ↔ R (z : Int)) : v = u := by
  rcases h with ⟨rfl, a⟩ | ⟨l, rfl, _, _, s, f⟩ <;> rcases g with ⟨rfl, b⟩ | ⟨k, rfl, _, _, t, j⟩
  · rfl
  · exact absurd ((e k).mpr t) (a k)
  · exact absurd ((e l).mp s) (b l)
  · have : l = k := by
      rcases Nat.lt_trichotomy l k with w | w | w
      · exact absurd ((e l).mp s) (j l w)
      · exact w
      · exact absurd ((e k).mpr t) (f k w)
    rw [this]
/-- what the part of all sizes is that is in a set -/
def ShaS (S : Int → Prop) (t b : Int) : Prop := ∃ N K : Nat, 1 ≤ N ∧ ∀ M, N ∣ M → 1 ≤ M → ∀ J, K ≤ J → cnt (fun z => S ((z + J * M : Nat) : Int)) M * b = t * (M : Int)
theorem cnt_inc (A B : Nat → Prop) (L : Nat) : cnt A L + cnt B L = cnt (fun z => A z ∧ B z) L + cnt (fun z => A z ∨ B z) L := by
  induction L with
  | zero => rfl
  | succ L ih =>
    rw [cnt_succ, cnt_succ, cnt_succ, cnt_succ]
    by_cases a : A (L + 1) <;> by_cases b : B (L + 1) <;> simp [a, b] <;> omega
theorem cnt_dif (A B R : Nat → Prop) (L : Nat) (h : ∀ z, 1 ≤ z → (R z ↔ A z ∧ ¬ B z)) : cnt R L = cnt A L - cnt (fun z => A z ∧ B z) L := by
  induction L with
  | zero => rfl
  | succ L ih =>
    rw [cnt_succ, cnt_succ, cnt_succ]
    have e := h (L + 1) (by omega)
    by_cases a : A (L + 1) <;> by_cases b : B (L + 1) <;> simp [a, b, e] <;> omega
theorem cnt_not (A R : Nat → Prop) (L : Nat) (h : ∀ z, 1 ≤ z → (R z ↔ ¬ A z)) : cnt R L = L - cnt A L := by
  induction L with
  | zero => rfl
  | succ L ih =>
    rw [cnt_succ, cnt_succ]
    have e := h (L + 1) (by omega)
    by_cases a : A (L + 1) <;> simp [a, e] <;> omega
theorem cnt_none2 (A : Nat → Prop) (L : Nat) (h : ∀ z, 1 ≤ z → z ≤ L → ¬ A z) : cnt A L = 0 := by
  rw [cnt_congr (R := fun _ => False) fun z z1 zl => ⟨fun q => h z z1 zl q, fun q => q.elim⟩]
  exact _root_.L3.cnt_none _ (fun _ q => q) L
theorem cnt_first (A : Nat → Prop) (l : Nat) (l1 : 1 ≤ l) (a : A l) (h : ∀ z, z < l → ¬ A z) : cnt A l = 1 ∧ cnt A (l - 1) = 0 := by
  have e := cnt_none2 A (l - 1) fun z _ zl => h z (by omega)
  have f := cnt_succ A (l - 1)
  rw [show l - 1 + 1 = l by omega, if_pos a] at f
  exact ⟨by omega, e⟩
theorem sha_two {S1 S2 : Int → Prop} {t1 b1 t2 b2 : Int} (h1 : ShaS S1 t1 b1) (h2 : ShaS S2 t2 b2) : ∃ M J : Nat, 1 ≤ M ∧ (cnt (fun z => S1 ((z + J * M : Nat) : Int)) M * b1 = t1 * (M : Int)) ∧ (cnt (fun z => S2 ((z + J * M : Nat) : Int)) M * b2 = t2 * (M : Int)) := by
  obtain ⟨N1, K1, n1, f1⟩ := h1
  obtain ⟨N2, K2, n2, f2⟩ := h2
  have m1 : 1 ≤ N1 * N2 := Nat.mul_pos n1 n2
  exact ⟨N1 * N2, K1 + K2, m1, f1 _ (Nat.dvd_mul_right _ _) m1 _ (by omega), f2 _ (Nat.dvd_mul_left _ _) m1 _ (by omega)⟩
theorem sha_add {S1 S2 : Int → Prop} {t1 b1 t2 b2 t3 b3 t4 b4 : Int} (h1 : ShaS S1 t1 b1) (h2 : ShaS S2 t2 b2) (h3 : ShaS (fun z => S1 z ∧ S2 z) t3 b3) (h4 : ShaS (fun z => S1 z ∨ S2 z) t4 b4) : t1 * (b2 * b3 * b4) + t2 * (b1 * b3 * b4) = t3 * (b1 * b2 * b4) + t4 * (b1 * b2 * b3) := by
  obtain ⟨N1, K1, n1, f1⟩ := h1
  obtain ⟨N2, K2, n2, f2⟩ := h2
  obtain ⟨N3, K3, n3, f3⟩ := h3
  obtain ⟨N4, K4, n4, f4⟩ := h4
  have m1 : 1 ≤ N1 * N2 * (N3 * N4) := Nat.mul_pos (Nat.mul_pos n1 n2) (Nat.mul_pos n3 n4)
  have d1 : N1 ∣ N1 * N2 * (N3 * N4) := Nat.dvd_trans (Nat.dvd_mul_right _ _) (Nat.dvd_mul_right _ _)
  have d2 : N2 ∣ N1 * N2 * (N3 * N4) := Nat.dvd_trans (Nat.dvd_mul_left _ _) (Nat.dvd_mul_right _ _)
  have d3 : N3 ∣ N1 * N2 * (N3 * N4) := Nat.dvd_trans (Nat.dvd_mul_right _ _) (Nat.dvd_mul_left _ _)
  have d4 : N4 ∣ N1 * N2 * (N3 * N4) := Nat.dvd_trans (Nat.dvd_mul_left _ _) (Nat.dvd_mul_left _ _)
  generalize N1 * N2 * (N3 * N4) = M at *
  have g1 := f1 M d1 m1 (K1 + K2 + K3 + K4) (by omega)
  have g2 := f2 M d2 m1 (K1 + K2 + K3 + K4) (by omega)
  have g3 := f3 M d3 m1 (K1 + K2 + K3 + K4) (by omega)
  have g4 := f4 M d4 m1 (K1 + K2 + K3 + K4) (by omega)
  have g5 := cnt_inc (fun z => S1 ((z + (K1 + K2 + K3 + K4) * M : Nat) : Int)) (fun z => S2 ((z + (K1 + K2 + K3 + K4) * M : Nat) : Int)) M
  generalize cnt (fun z => S1 ((z + (K1 + K2 + K3 + K4) * M : Nat) : Int)) M = c1 at *
  generalize cnt (fun z => S2 ((z + (K1 + K2 + K3 + K4) * M : Nat) : Int)) M = c2 at *
  generalize cnt (fun z => S1 ((z + (K1 + K2 + K3 + K4) * M : Nat) : Int) ∧ S2 ((z + (K1 + K2 + K3 + K4) * M : Nat) : Int)) M = c3 at *
  generalize cnt (fun z => S1 ((z + (K1 + K2 + K3 + K4) * M : Nat) : Int) ∨ S2 ((z + (K1 + K2 + K3 + K4) * M : Nat) : Int)) M = c4 at *
  refine Int.eq_of_mul_eq_mul_right (a := (M : Int)) (by omega) ?_
  have c4e : c4 = c1 + c2 - c3 := by omega
  subst c4e
  have e1 : (t1 * (b2 * b3 * b4) + t2 * (b1 * b3 * b4)) * (M : Int) = t1 * M * (b2 * b3 * b4) + t2 * M * (b1 * b3 * b4) := by grind
  have e2 : (t3 * (b1 * b2 * b4) + t4 * (b1 * b2 * b3)) * (M : Int) = t3 * M * (b1 * b2 * b4) + t4 * M * (b1 * b2 * b3) := by grind
  rw [e1, e2, ← g1, ← g2, ← g3, ← g4]
  grind
theorem sha_not {S1 : Int → Prop} {t1 b1 t2 b2 : Int} (h1 : ShaS S1 t1 b1) (h2 : ShaS (fun z => 1 ≤ z ∧ ¬ S1 z) t2 b2) : t2 * b1 = b2 * (b1 - t1) := by
  obtain ⟨M, J, m1, g1, g2⟩ := sha_two h1 h2
  have e := cnt_not (fun z => S1 ((z + J * M : Nat) : Int)) (fun z => 1 ≤ ((z + J * M : Nat) : Int) ∧ ¬ S1 ((z + J * M : Nat) : Int)) M fun z z1 => ⟨fun q => q.2, fun q => ⟨by omega, q⟩⟩
  rw [e] at g2
  generalize cnt (fun z => S1 ((z + J * M : Nat) : Int)) M = c1 at *
  refine Int.eq_of_mul_eq_mul_right (a := (M : Int)) (by omega) ?_
  have e1 : t2 * b1 * (M : Int) = t2 * M * b1 := by grind
  have e2 : b2 * (b1 - t1) * (M : Int) = b2 * b1 * M - b2 * (t1 * M) := by grind
  rw [e1, e2, ← g2, ← g1]
  grind
local macro_rules | `(tactic| show "cals") => `(tactic| first
  | assumption
  | ((with_reducible refine' CalS.same ?s1 ?s2); (case s2 => assumption); (case s1 => show "cals")))
local macro_rules | `(tactic| show "nf") => `(tactic| (intro _ _ _; rfl))
local macro_rules | `(tactic| show "cz") => `(tactic| first | decide | assumption | omega)
theorem m_calS {C a : Addr} {m : Str} {sp : Sp} {E : XK} {tas : TA} {σ : L2.St} {H : Hp} {Q : VK} {S : Int → Prop} {m1 B1 L1 : Nat} (h1 : CalS C H a S m1 B1 L1) (hn : ∀ N c e, (fsC N c e).lookup m = none) (h : tas σ H fun vs H2 => sp (.ref a :: vs) H2 Q E) : MethR C m sp E tas σ (.ref a) H Q := by
  obtain ⟨N, cs, es, ⟨⟨dx, c, e, x, _⟩, _, _⟩, _⟩ := h1.ob
  exact m_meth x (hn _ _ _) h

theorem LSet.apf {H H' : Hp} {R p : Addr} {qs : List (Nat × Nat)} {ds cs xs : List Nat} (g : LSet H R qs ds cs xs) (s : Same H H') (f : _root_.L3.Fr H p) : LAp H' R p := fun P' D' C' X' q => by
  obtain ⟨P, D, C, X, h1, h2, h3, h4, h5⟩ := g.ob
  obtain ⟨as, h6, _⟩ := h2.ob
  have e := s _ _ h1
  rw [q] at e
  cases e
  exact ⟨fun e => ne_new f h6 e.symm, fun e => ne_new f h3 e.symm, fun e => ne_new f h4 e.symm, fun e => ne_new f h5 e.symm⟩
def Cmb (b : Bool) (P R : Prop) : Prop := (b = true ∧ P ∧ R) ∨ (b = false ∧ (P ∨ R))
instance (b : Bool) (P R : Prop) [Decidable P] [Decidable R] : Decidable (Cmb b P R) := by unfold Cmb; infer_instance
theorem Cmb.iff {b : Bool} {P R P' R' : Prop} (h1 : P ↔ P') (h2 : R ↔ R') : Cmb b P R ↔ Cmb b P' R' := by unfold Cmb; rw [h1, h2]
abbrev Qs (ps : List Nat) : List (Nat × Nat) := ps.map fun p => (p, 1)
theorem numP_app (a b : List (Nat × Nat)) : numP (a ++ b) = numP a * numP b := by
  induction b using snoc_ind with
  | h0 => rw [List.append_nil, show numP [] = 1 from rfl, Nat.mul_one]
  | hs b q ih => rw [← List.append_assoc, numP_snoc, numP_snoc, ih, Nat.mul_assoc]
theorem Qs_parts {ps : List Nat} (nd : ps.Nodup) (h : ∀ p ∈ ps, Pr p) : Parts (Qs ps) := ⟨by rw [Qs, List.map_map]; exact (show (ps.map fun p => p).Nodup by rw [List.map_id']; exact nd), fun q m => by
  obtain ⟨p, hp, rfl⟩ := List.mem_map.mp m
  exact ⟨h p hp, Nat.le_refl 1⟩⟩
theorem Qs_many (ps : List Nat) : manyP (Qs ps) = 2 ^ ps.length := by
  induction ps using snoc_ind with
  | h0 => rfl
  | hs ps p ih => rw [Qs, List.map_append]; show manyP (Qs ps ++ [(p, 1)]) = _; rw [manyP_snoc, ih, List.length_append, List.length_singleton, Nat.pow_succ]
theorem Qs_le {ps : List Nat} {k : Nat} (h : ∀ p ∈ ps, p ≤ k) : numP (Qs ps) ≤ k ^ ps.length := by
  induction ps using snoc_ind with
  | h0 => exact Nat.le_refl 1
  | hs ps p ih =>
    have e : Qs (ps ++ [p]) = Qs ps ++ [(p, 1)] := by rw [Qs, List.map_append]; rfl
    rw [e, numP_snoc, List.length_append, List.length_singleton, Nat.pow_succ k]
    show numP (Qs ps) * p ^ 1 ≤ _
    rw [Nat.pow_one]
    exact Nat.mul_le_mul (ih fun x m => h x (List.mem_append_left _ m)) (h p (List.mem_append_right _ (List.mem_singleton.mpr rfl)))
theorem Qs_dvd {ps : List Nat} (nd : ps.Nodup) (h : ∀ p ∈ ps, Pr p) {p : Nat} (hp : Pr p) : p ∣ numP (Qs ps) ↔ p ∈ ps := by
  rw [(Qs_parts nd h).dvd hp, Qs, List.map_map]
  simp
theorem Qs_sq {ps : List Nat} (nd : ps.Nodup) (h : ∀ p ∈ ps, Pr p) {p : Nat} (hp : Pr p) (d : p ∣ numP (Qs ps)) : ¬ p ^ 2 ∣ numP (Qs ps) :=
  ((Qs_parts nd h).full (p := p) (k := 1) (List.mem_map.mpr ⟨p, (Qs_dvd nd h hp).mp d, rfl⟩)).2
theorem sq_cop {M p : Nat} (hp : Pr p) (d : p ∣ M) (s : ¬ p ^ 2 ∣ M) : Nat.Coprime p (M / p) := hp.cop fun q => s (by
  obtain ⟨k, rfl⟩ := d
  rw [Nat.mul_div_cancel_left _ (by have := hp.1; omega)] at q
  rw [Nat.pow_two]
  exact Nat.mul_dvd_mul_left p q)
theorem pr_ex : ∀ n : Nat, 2 ≤ n → ∃ p, Pr p ∧ p ∣ n := by
  intro n
  induction n using Nat.strongRecOn with
  | ind n ih =>
    intro h
    by_cases z : Pr n
    · exact ⟨n, z, Nat.dvd_refl n⟩
    · have : ∃ d, d ∣ n ∧ d ≠ 1 ∧ d ≠ n := Classical.byContradiction fun w => z ⟨h, fun d m => Classical.byContradiction fun q => w ⟨d, m, fun k => q (.inl k), fun k => q (.inr k)⟩⟩
      obtain ⟨d, dn, d1, d2⟩ := this
      have dl := Nat.le_of_dvd (by omega) dn
      have d0 := Nat.pos_of_dvd_of_pos dn (by omega)
      obtain ⟨p, hp, pd⟩ := ih d (by omega) (by omega)
      exact ⟨p, hp, Nat.dvd_trans pd dn⟩
theorem cop_of {a b : Nat} (a0 : 0 < a) (h : ∀ p, Pr p → p ∣ a → p ∣ b → False) : Nat.Coprime a b := Classical.byContradiction fun w => by
  have g0 : 0 < Nat.gcd a b := Nat.gcd_pos_of_pos_left _ a0
  have g1 : Nat.gcd a b ≠ 1 := w
  obtain ⟨p, hp, pd⟩ := pr_ex (Nat.gcd a b) (by omega)
  exact h p hp (Nat.dvd_trans pd (Nat.gcd_dvd_left _ _)) (Nat.dvd_trans pd (Nat.gcd_dvd_right _ _))
/-- the calendar of the sizes without a divisor of a product of unlike primes -/
theorem canon_both {M : Nat} (M1 : 1 ≤ M) (Ml : M ≤ 10 ^ 24) (sq : ∀ p, Pr p → p ∣ M → ¬ p ^ 2 ∣ M) : Canon M [1] [] := by
  refine ⟨M1, Ml, List.pairwise_singleton _ _, fun d m => by rw [List.mem_singleton.mp m]; exact Nat.one_dvd _, List.Pairwise.nil, fun x m => absurd m List.not_mem_nil, ⟨fun x y e => by show Nat.gcd x M ∈ _ ↔ Nat.gcd y M ∈ _; rw [e], fun p hp pd t => ?_⟩⟩
  have c := sq_cop hp pd (sq p hp pd)
  have q : Nat.gcd p M ∈ [1] := (t p 1 (by rw [Nat.gcd_one_left]; exact c)).mpr (by show Nat.gcd 1 M ∈ _; rw [Nat.gcd_one_left]; exact List.mem_singleton.mpr rfl)
  rw [Nat.gcd_eq_left pd, List.mem_singleton] at q
  have := hp.1
  omega
theorem canon_either {n1 n2 q1 q2 : Nat} {ts : List Nat} (a1 : 1 ≤ n1) (a2 : 1 ≤ n2) (Ml : n1 * n2 ≤ 10 ^ 24) (c12 : Nat.Coprime n1 n2) (sq : ∀ p, Pr p → p ∣ n1 * n2 → ¬ p ^ 2 ∣ n1 * n2) (h1 : Pr q1) (d1 : q1 ∣ n1) (h2 : Pr q2) (d2 : q2 ∣ n2) (tu : ts.Pairwise (· < ·)) (tm : ∀ d, d ∈ ts ↔ d ∣ n1 ∨ d ∣ n2) : Canon (n1 * n2) ts [] := by
  have key : ∀ {p q : Nat}, Pr p → Pr q → p ∣ n1 → q ∣ n2 → p * q ∉ ts := fun {p q} hp hq pd qd m => by
    have no : ∀ r, Pr r → r ∣ n1 → r ∣ n2 → False := fun r hr x y => by
      have z : r ∣ 1 := by rw [← c12]; exact Nat.dvd_gcd x y
      have := Nat.le_of_dvd (by decide) z
      have := hr.1
      omega
    rcases (tm _).mp m with z | z
    · exact no q hq (Nat.dvd_trans (Nat.dvd_mul_left _ _) z) qd
    · exact no p hp pd (Nat.dvd_trans (Nat.dvd_mul_right _ _) z)
  have M1 : 1 ≤ n1 * n2 := Nat.mul_pos a1 a2
  refine ⟨M1, Ml, tu, fun d m => ?_, List.Pairwise.nil, fun x m => absurd m List.not_mem_nil, ⟨fun x y e => by show Nat.gcd x (n1 * n2) ∈ _ ↔ Nat.gcd y (n1 * n2) ∈ _; rw [e], fun p hp pd t => ?_⟩⟩
  · rcases (tm d).mp m with z | z
    · exact Nat.dvd_trans z (Nat.dvd_mul_right _ _)
    · exact Nat.dvd_trans z (Nat.dvd_mul_left _ _)
  · have c := sq_cop hp pd (sq p hp pd)
    have step : ∀ q, Pr q → q ∣ n1 * n2 → q ∈ ts → p * q ∣ n1 * n2 → p * q ∈ ts := fun q hq qd qm pq => by
      have : Nat.gcd (p * q) (n1 * n2) ∈ ts := (t (p * q) q (Nat.Coprime.gcd_mul_left_cancel q c)).mpr (by show Nat.gcd q (n1 * n2) ∈ ts; rw [Nat.gcd_eq_left qd]; exact qm)
      rw [Nat.gcd_eq_left pq] at this
      exact this
    rcases hp.dvd_mul pd with z | z
    · exact key hp h2 z d2 (step q2 h2 (Nat.dvd_trans d2 (Nat.dvd_mul_left _ _)) ((tm _).mpr (.inr d2)) (Nat.mul_dvd_mul z d2))
    · have := step q1 h1 (Nat.dvd_trans d1 (Nat.dvd_mul_right _ _)) ((tm _).mpr (.inl d1)) (by rw [Nat.mul_comm]; exact Nat.mul_dvd_mul d1 z)
      rw [Nat.mul_comm] at this
      exact key h1 hp d1 z this
theorem in_both {n1 n2 : Nat} (z : Int) : InC (n1 * n2) [1] [] z ↔ InC n1 [1] [] z ∧ InC n2 [1] [] z := by
  unfold InC
  have f : ∀ N : Nat, (Int.gcd z N ∈ [1] ↔ ¬ z.toNat ∈ ([] : List Nat)) ↔ Nat.Coprime z.natAbs N := fun N => by
    rw [List.mem_singleton]
    exact ⟨fun q => q.mpr List.not_mem_nil, fun q => ⟨fun _ => List.not_mem_nil, fun _ => q⟩⟩
  rw [f, f, f]
  constructor
  · rintro ⟨a, b⟩
    exact ⟨⟨a, Nat.Coprime.coprime_mul_right_right b⟩, ⟨a, Nat.Coprime.coprime_mul_left_right b⟩⟩
  · rintro ⟨⟨a, b⟩, ⟨_, c⟩⟩
    exact ⟨a, Nat.Coprime.mul_right b c⟩
theorem in_either {n1 n2 : Nat} {ts : List Nat} (a1 : 1 ≤ n1) (a2 : 1 ≤ n2) (c12 : Nat.Coprime n1 n2) (tm : ∀ d, d ∈ ts ↔ d ∣ n1 ∨ d ∣ n2) (z : Int) : InC (n1 * n2) ts [] z ↔ InC n1 [1] [] z ∨ InC n2 [1] [] z := by
  unfold InC
  have f : ∀ N : Nat, (Int.gcd z N ∈ [1] ↔ ¬ z.toNat ∈ ([] : List Nat)) ↔ Nat.Coprime z.natAbs N := fun N => by
    rw [List.mem_singleton]
    exact ⟨fun q => q.mpr List.not_mem_nil, fun q => ⟨fun _ => List.not_mem_nil, fun _ => q⟩⟩
  have g : (Int.gcd z ((n1 * n2 : Nat) : Int) ∈ ts ↔ ¬ z.toNat ∈ ([] : List Nat)) ↔ (Nat.Coprime z.natAbs n1 ∨ Nat.Coprime z.natAbs n2) := by
    have e : Int.gcd z ((n1 * n2 : Nat) : Int) = Nat.gcd z.natAbs (n1 * n2) := rfl
    rw [e, tm]
    constructor
    · intro q
      rcases q.mpr List.not_mem_nil with h | h
      · right
        have x : Nat.gcd z.natAbs n2 ∣ Nat.gcd n1 n2 := Nat.dvd_gcd (Nat.dvd_trans (Nat.gcd_dvd_gcd_of_dvd_right _ (Nat.dvd_mul_left _ _)) h) (Nat.gcd_dvd_right _ _)
        rw [c12] at x
        exact Nat.dvd_one.mp x
      · left
        have x : Nat.gcd z.natAbs n1 ∣ Nat.gcd n1 n2 := Nat.dvd_gcd (Nat.gcd_dvd_right _ _) (Nat.dvd_trans (Nat.gcd_dvd_gcd_of_dvd_right _ (Nat.dvd_mul_right _ _)) h)
        rw [c12] at x
        exact Nat.dvd_one.mp x
    · intro q
      refine ⟨fun _ => List.not_mem_nil, fun _ => ?_⟩
      rcases q with h | h
      · right
        rw [Nat.Coprime.gcd_mul_left_cancel_right n2 h.symm]
        exact Nat.gcd_dvd_right _ _
      · left
        rw [Nat.Coprime.gcd_mul_right_cancel_right n1 h.symm]
        exact Nat.gcd_dvd_right _ _
  rw [f, f, g]
  constructor
  · rintro ⟨a, b | b⟩
    · exact .inl ⟨a, b⟩
    · exact .inr ⟨a, b⟩
  · rintro (⟨a, b⟩ | ⟨a, b⟩)
    · exact ⟨a, .inl b⟩
    · exact ⟨a, .inr b⟩
def P10 : List Nat := [2, 3, 5, 7, 11, 13, 17, 19, 23, 29]
theorem p10_pr : ∀ p ∈ P10, Pr p ∧ p ≤ 29 := fun p m => by
  simp only [P10, List.mem_cons, List.not_mem_nil, or_false] at m
  rcases m with rfl | rfl | rfl | rfl | rfl | rfl | rfl | rfl | rfl | rfl <;> exact ⟨trial_pr (by decide) (by decide) (by decide), by decide⟩
theorem told_same {K : PySem.W.Frag} {H : Hp} {A B c e c' e' : Addr} {n : Int} {cs : List Nat} (z3 : H A = some (.tup [.int n, .ref c, .ref e])) (z1 : H c = some (.lst (nI cs))) (z2 : H e = some (.lst [])) (w3 : H B = some (.tup [.int n, .ref c', .ref e'])) (w1 : H c' = some (.lst (nI cs))) (w2 : H e' = some (.lst [])) :
    ∃ d, Dp K H (.ref A) d ∧ Dp K H (.ref B) d ∧ SeqAt.shaped d = true := by
  have a1 : H c = some (.lst ((cs.map fun d : Nat => (d : Int)).map V.int)) := by rw [List.map_map]; exact z1
  have b1 : H c' = some (.lst ((cs.map fun d : Nat => (d : Int)).map V.int)) := by rw [List.map_map]; exact w1
  refine ⟨_, Dp.tup (SqT.of z3) (.cons (Dp.int _) (.cons (Dp.lst (SqL.of a1) (dp_ints _)) (.cons (Dp.lst (SqL.of z2) .nil) .nil))), Dp.tup (SqT.of w3) (.cons (Dp.int _) (.cons (Dp.lst (SqL.of b1) (dp_ints _)) (.cons (Dp.lst (SqL.of w2) .nil) .nil))), ?_⟩
  have h1 := depth_ints (cs.map fun d : Nat => (d : Int))
  unfold SeqAt.shaped
  rw [Bool.and_eq_true]
  refine ⟨by have h2 := lay_ints (cs.map fun d : Nat => (d : Int)); rw [List.map_map] at h2; simp [PyData.canLay0, PyData.canLayAll0, h2], decide_eq_true ?_⟩
  simp only [PyData.depth, PyData.depthAll]
  omega
/-- how a set that two sets make is told -/
theorem told_of {n1 n2 N : Nat} {cs1 xs1 cs2 xs2 cc ce : List Nat} {b : Bool} (a1 : 1 ≤ n1) (a2 : 1 ≤ n2) (hx : ∀ z, z ∈ xs1 ∨ z ∈ xs2 → 1 ≤ z) (can : Canon N cc ce) (h : ∀ z : Int, InC N cc ce z ↔ Cmb b (InC n1 cs1 xs1 z) (InC n2 cs2 xs2 z)) :
    N ∣ Nat.lcm n1 n2 ∧ (∀ z, Nat.gcd z N ∈ cc ↔ Cmb b (Nat.gcd z n1 ∈ cs1) (Nat.gcd z n2 ∈ cs2)) ∧ (∀ z : Nat, z ∈ ce ↔ (z ∈ xs1 ∨ z ∈ xs2) ∧ ¬ (Cmb b (InC n1 cs1 xs1 (z : Int)) (InC n2 cs2 xs2 (z : Int)) ↔ Cmb b (Nat.gcd z n1 ∈ cs1) (Nat.gcd z n2 ∈ cs2))) := by
  have reg : ∀ x, Nat.gcd x N ∈ cc ↔ Cmb b (Nat.gcd x n1 ∈ cs1) (Nat.gcd x n2 ∈ cs2) := fun x => by
    obtain ⟨z, z1, zx, hz⟩ := class_far (L := N * (n1 * n2)) (Nat.mul_pos can.n1 (Nat.mul_pos a1 a2)) x (ce ++ (xs1 ++ xs2))
    have a := h (z : Int)
    have x0 : z ∉ ce := fun w => zx (List.mem_append_left _ w)
    have x1 : z ∉ xs1 := fun w => zx (List.mem_append_right _ (List.mem_append_left _ w))
    have x2 : z ∉ xs2 := fun w => zx (List.mem_append_right _ (List.mem_append_right _ w))
    have e : ∀ {M : Nat} {c e : List Nat}, z ∉ e → (InC M c e (z : Int) ↔ Nat.gcd z M ∈ c) := fun {M c e} ne => by
      rw [inC_nat z1]
      exact ⟨fun q => q.mpr ne, fun q => ⟨fun _ => ne, fun _ => q⟩⟩
    rw [e x0, Cmb.iff (e x1) (e x2), hz N (Nat.dvd_mul_right _ _), hz n1 (Nat.dvd_trans (Nat.dvd_mul_right _ _) (Nat.dvd_mul_left _ _)), hz n2 (Nat.dvd_trans (Nat.dvd_mul_left _ _) (Nat.dvd_mul_left _ _))] at a
    exact a
  refine ⟨can.le.dvd can.n1 (Nat.lcm_pos a1 a2) fun x y e => ?_, reg, fun z => ?_⟩
  · have g : ∀ {k : Nat}, k ∣ Nat.lcm n1 n2 → Nat.gcd x k = Nat.gcd y k := fun {k} d => by rw [← gcd_gcd_n d, e, gcd_gcd_n d]
    show Nat.gcd x N ∈ cc ↔ Nat.gcd y N ∈ cc
    rw [reg, reg, g (Nat.dvd_lcm_left _ _), g (Nat.dvd_lcm_right _ _)]
  · have main : 1 ≤ z → (z ∈ ce ↔ ¬ (Cmb b (InC n1 cs1 xs1 (z : Int)) (InC n2 cs2 xs2 (z : Int)) ↔ Cmb b (Nat.gcd z n1 ∈ cs1) (Nat.gcd z n2 ∈ cs2))) := fun z1 => by
      rw [← h, ← reg, inC_nat z1]
      by_cases p : Nat.gcd z N ∈ cc <;> by_cases q : z ∈ ce <;> simp [p, q]
    constructor
    · intro m
      have z1 := (can.ep z m).1
      refine ⟨Classical.byContradiction fun w => ?_, (main z1).mp m⟩
      have x1 : z ∉ xs1 := fun q => w (.inl q)
      have x2 : z ∉ xs2 := fun q => w (.inr q)
      have e : ∀ {M : Nat} {c e : List Nat}, z ∉ e → (InC M c e (z : Int) ↔ Nat.gcd z M ∈ c) := fun {M c e} ne => by
        rw [inC_nat z1]
        exact ⟨fun q => q.mpr ne, fun q => ⟨fun _ => ne, fun _ => q⟩⟩
      exact (main z1).mp m (Cmb.iff (e x1) (e x2))
    · rintro ⟨u, q⟩
      exact (main (hx z u)).mpr q

/-! ### the text by places -/
def top (i : Nat) : Stmt := PySem.Challenge.pw_rulesquares_k07_how_joined_calendars_are.main.body.getD i (.Pass ⟨0, 0, 0, 0⟩)
abbrev s_Calendar__chooses : Stmt := inClass (top 10) 14
abbrev N_Calendar__chooses : List Str := ["self", "size"]
theorem sc_Calendar__chooses : FnScope N_Calendar__chooses ["self", "size"] (defScope s_Calendar__chooses) := ⟨rfl, rfl, rfl, by decide +kernel, rfl, by decide +kernel, by decide +kernel⟩
abbrev s_Calendar___contains__ : Stmt := inClass (top 10) 4
abbrev N_Calendar___contains__ : List Str := ["self", "x"]
theorem sc_Calendar___contains__ : FnScope N_Calendar___contains__ ["self", "x"] (defScope s_Calendar___contains__) := ⟨rfl, rfl, rfl, by decide +kernel, rfl, by decide +kernel, by decide +kernel⟩
abbrev s__check : Stmt := top 11
abbrev N__check : List Str := ["number", "divisors", "extra", "divisor", "size"]
theorem sc__check : FnScope N__check ["number", "divisors", "extra"] (defScope s__check) := ⟨rfl, rfl, rfl, by decide +kernel, rfl, by decide +kernel, by decide +kernel⟩
abbrev s__is_needless : Stmt := top 13
abbrev N__is_needless : List Str := ["prime", "number", "divisors", "chosen", "full", "divisor"]
theorem sc__is_needless : FnScope N__is_needless ["prime", "number", "divisors", "chosen"] (defScope s__is_needless) := ⟨rfl, rfl, rfl, by decide +kernel, rfl, by decide +kernel, by decide +kernel⟩
abbrev s_prime_list : Stmt := top 7
abbrev N_prime_list : List Str := ["number", "primes", "rest", "prime"]
theorem sc_prime_list : FnScope N_prime_list ["number"] (defScope s_prime_list) := ⟨rfl, rfl, rfl, by decide +kernel, rfl, by decide +kernel, by decide +kernel⟩
abbrev s_divisor_list : Stmt := top 8
abbrev N_divisor_list : List Str := ["number", "divisors", "prime", "without", "power", "divisor"]
theorem sc_divisor_list : FnScope N_divisor_list ["number"] (defScope s_divisor_list) := ⟨rfl, rfl, rfl, by decide +kernel, rfl, by decide +kernel, by decide +kernel⟩
abbrev s__least_number : Stmt := top 12
abbrev N__least_number : List Str := ["number", "chosen", "divisors", "least", "prime"]
theorem sc__least_number : FnScope N__least_number ["number", "chosen"] (defScope s__least_number) := ⟨rfl, rfl, rfl, by decide +kernel, rfl, by decide +kernel, by decide +kernel⟩
abbrev s_Calendar___init__ : Stmt := inClass (top 10) 0
abbrev N_Calendar___init__ : List Str := ["self", "number", "divisors", "extra", "given", "least", "divisor", "size"]
theorem sc_Calendar___init__ : FnScope N_Calendar___init__ ["self", "number", "divisors", "extra"] (defScope s_Calendar___init__) := ⟨rfl, rfl, rfl, by decide +kernel, rfl, by decide +kernel, by decide +kernel⟩
abbrev s_Calendar_extra : Stmt := inClass (top 10) 3
abbrev N_Calendar_extra : List Str := ["self"]
theorem sc_Calendar_extra : FnScope N_Calendar_extra ["self"] (defScope s_Calendar_extra) := ⟨rfl, rfl, rfl, by decide +kernel, rfl, by decide +kernel, by decide +kernel⟩
abbrev s_Calendar___and__ : Stmt := inClass (top 10) 5
abbrev N_Calendar___and__ : List Str := ["self", "other", "number", "divisors", "extra", "size"]
theorem sc_Calendar___and__ : FnScope N_Calendar___and__ ["self", "other"] (defScope s_Calendar___and__) := ⟨rfl, rfl, rfl, by decide +kernel, rfl, by decide +kernel, by decide +kernel⟩
abbrev s_Calendar___eq__ : Stmt := inClass (top 10) 8
abbrev N_Calendar___eq__ : List Str := ["self", "other"]
theorem sc_Calendar___eq__ : FnScope N_Calendar___eq__ ["self", "other"] (defScope s_Calendar___eq__) := ⟨rfl, rfl, rfl, by decide +kernel, rfl, by decide +kernel, by decide +kernel⟩
abbrev s_Calendar___invert__ : Stmt := inClass (top 10) 7
abbrev N_Calendar___invert__ : List Str := ["self", "divisors", "divisor"]
theorem sc_Calendar___invert__ : FnScope N_Calendar___invert__ ["self"] (defScope s_Calendar___invert__) := ⟨rfl, rfl, rfl, by decide +kernel, rfl, by decide +kernel, by decide +kernel⟩
abbrev s_Calendar___or__ : Stmt := inClass (top 10) 6
abbrev N_Calendar___or__ : List Str := ["self", "other"]
theorem sc_Calendar___or__ : FnScope N_Calendar___or__ ["self", "other"] (defScope s_Calendar___or__) := ⟨rfl, rfl, rfl, by decide +kernel, rfl, by decide +kernel, by decide +kernel⟩
abbrev s__law_made : Stmt := top 25
abbrev N__law_made : List Str := ["one"]
theorem sc__law_made : FnScope N__law_made ["one"] (defScope s__law_made) := ⟨rfl, rfl, rfl, by decide +kernel, rfl, by decide +kernel, by decide +kernel⟩
abbrev s__law_dip : Stmt := top 16
abbrev N__law_dip : List Str := ["well", "many", "number", "turn"]
theorem sc__law_dip : FnScope N__law_dip ["well", "many"] (defScope s__law_dip) := ⟨rfl, rfl, rfl, by decide +kernel, rfl, by decide +kernel, by decide +kernel⟩
abbrev s__law_gcd : Stmt := top 17
abbrev N__law_gcd : List Str := ["one", "other"]
theorem sc__law_gcd : FnScope N__law_gcd ["one", "other"] (defScope s__law_gcd) := ⟨rfl, rfl, rfl, by decide +kernel, rfl, by decide +kernel, by decide +kernel⟩
abbrev s__law_chosen : Stmt := top 21
abbrev N__law_chosen : List Str := ["well", "divisors", "manner", "pivot", "one", "marks", "key"]
theorem sc__law_chosen : FnScope N__law_chosen ["well", "divisors"] (defScope s__law_chosen) := ⟨rfl, rfl, rfl, by decide +kernel, rfl, by decide +kernel, by decide +kernel⟩
abbrev s__law_divisors : Stmt := top 20
abbrev N__law_divisors : List Str := ["parts", "found", "prime", "power", "times", "more", "turn", "one"]
theorem sc__law_divisors : FnScope N__law_divisors ["parts"] (defScope s__law_divisors) := ⟨rfl, rfl, rfl, by decide +kernel, rfl, by decide +kernel, by decide +kernel⟩
abbrev s__law_extra : Stmt := top 22
abbrev N__law_extra : List Str := ["well", "divisors", "run", "sizes", "turn", "near", "times", "size", "one"]
theorem sc__law_extra : FnScope N__law_extra ["well", "divisors", "run"] (defScope s__law_extra) := ⟨rfl, rfl, rfl, by decide +kernel, rfl, by decide +kernel, by decide +kernel⟩
abbrev s__law_prime : Stmt := top 18
abbrev N__law_prime : List Str := ["at", "down", "one", "by"]
theorem sc__law_prime : FnScope N__law_prime ["at"] (defScope s__law_prime) := ⟨rfl, rfl, rfl, by decide +kernel, rfl, by decide +kernel, by decide +kernel⟩
abbrev s__law_parts : Stmt := top 19
abbrev N__law_parts : List Str := ["well", "most", "limit", "parts", "number", "many", "plain", "turn", "prime", "high", "power", "times", "again", "known", "one", "other"]
theorem sc__law_parts : FnScope N__law_parts ["well", "most", "limit"] (defScope s__law_parts) := ⟨rfl, rfl, rfl, by decide +kernel, rfl, by decide +kernel, by decide +kernel⟩
abbrev s__law_set : Stmt := top 24
abbrev N__law_set : List Str := ["well", "most", "limit", "run", "parts", "divisors", "chosen"]
theorem sc__law_set : FnScope N__law_set ["well", "most", "limit", "run"] (defScope s__law_set) := ⟨rfl, rfl, rfl, by decide +kernel, rfl, by decide +kernel, by decide +kernel⟩
abbrev s_Calendar_divisors : Stmt := inClass (top 10) 2
abbrev N_Calendar_divisors : List Str := ["self"]
theorem sc_Calendar_divisors : FnScope N_Calendar_divisors ["self"] (defScope s_Calendar_divisors) := ⟨rfl, rfl, rfl, by decide +kernel, rfl, by decide +kernel, by decide +kernel⟩
abbrev s_Calendar_number : Stmt := inClass (top 10) 1
abbrev N_Calendar_number : List Str := ["self"]
theorem sc_Calendar_number : FnScope N_Calendar_number ["self"] (defScope s_Calendar_number) := ⟨rfl, rfl, rfl, by decide +kernel, rfl, by decide +kernel, by decide +kernel⟩
abbrev s__law_classes_right : Stmt := top 30
abbrev N__law_classes_right : List Str := ["parts", "wide", "due", "number", "told", "one", "prime", "power", "classes", "highest"]
theorem sc__law_classes_right : FnScope N__law_classes_right ["parts", "wide", "due", "number", "told"] (defScope s__law_classes_right) := ⟨rfl, rfl, rfl, by decide +kernel, rfl, by decide +kernel, by decide +kernel⟩
abbrev s__law_has : Stmt := top 23
abbrev N__law_has : List Str := ["size", "number", "chosen", "extra"]
theorem sc__law_has : FnScope N__law_has ["size", "number", "chosen", "extra"] (defScope s__law_has) := ⟨rfl, rfl, rfl, by decide +kernel, rfl, by decide +kernel, by decide +kernel⟩
abbrev s__law_in : Stmt := top 26
abbrev N__law_in : List Str := ["size", "one"]
theorem sc__law_in : FnScope N__law_in ["size", "one"] (defScope s__law_in) := ⟨rfl, rfl, rfl, by decide +kernel, rfl, by decide +kernel, by decide +kernel⟩
abbrev s__law_integers : Stmt := top 29
abbrev N__law_integers : List Str := ["told", "one"]
theorem sc__law_integers : FnScope N__law_integers ["told"] (defScope s__law_integers) := ⟨rfl, rfl, rfl, by decide +kernel, rfl, by decide +kernel, by decide +kernel⟩
abbrev s__law_is_integer : Stmt := top 28
abbrev N__law_is_integer : List Str := ["told"]
theorem sc__law_is_integer : FnScope N__law_is_integer ["told"] (defScope s__law_is_integer) := ⟨rfl, rfl, rfl, by decide +kernel, rfl, by decide +kernel, by decide +kernel⟩
abbrev s__law_join : Stmt := top 27
abbrev N__law_join : List Str := ["parts", "others", "joined", "prime", "power", "more", "known", "one", "high"]
theorem sc__law_join : FnScope N__law_join ["parts", "others"] (defScope s__law_join) := ⟨rfl, rfl, rfl, by decide +kernel, rfl, by decide +kernel, by decide +kernel⟩
abbrev s__law_told_right : Stmt := top 31
abbrev N__law_told_right : List Str := ["one", "other", "both", "calendar", "number", "told", "sizes", "parts", "wide", "due", "divisor", "here", "there", "odd", "size"]
theorem sc__law_told_right : FnScope N__law_told_right ["one", "other", "both", "calendar"] (defScope s__law_told_right) := ⟨rfl, rfl, rfl, by decide +kernel, rfl, by decide +kernel, by decide +kernel⟩
abbrev s__law_well : Stmt := top 15
abbrev N__law_well : List Str := ["script", "k", "cell"]
theorem sc__law_well : FnScope N__law_well ["script", "k"] (defScope s__law_well) := ⟨rfl, rfl, rfl, by decide +kernel, rfl, by decide +kernel, by decide +kernel⟩
abbrev s__law_wide_right : Stmt := top 32
abbrev N__law_wide_right : List Str := ["well", "primes", "some", "turn", "first", "second", "left", "right", "number", "both", "either", "told", "prime"]
theorem sc__law_wide_right : FnScope N__law_wide_right ["well"] (defScope s__law_wide_right) := ⟨rfl, rfl, rfl, by decide +kernel, rfl, by decide +kernel, by decide +kernel⟩
abbrev s_law : Stmt := top 33
abbrev N_law : List Str := ["script", "k", "one", "other", "left", "right"]
theorem sc_law : FnScope N_law ["script"] (defScope s_law) := ⟨rfl, rfl, rfl, by decide +kernel, rfl, by decide +kernel, by decide +kernel⟩
/-! ### what the top has left -/
structure Txt (K : PySem.W.Frag) (mg : Str → Option Value) : Type where
  C_Calendar : Addr
  f_Calendar__chooses : Addr
  fd_Calendar__chooses : FuncData
  f_Calendar___contains__ : Addr
  fd_Calendar___contains__ : FuncData
  f__check : Addr
  fd__check : FuncData
  f__is_needless : Addr
  fd__is_needless : FuncData
  f_prime_list : Addr
  fd_prime_list : FuncData
  f_divisor_list : Addr
  fd_divisor_list : FuncData
  f__least_number : Addr
  fd__least_number : FuncData
  f_Calendar___init__ : Addr
  fd_Calendar___init__ : FuncData
  f_Calendar_extra : Addr
  fd_Calendar_extra : FuncData
  p_Calendar_extra : Addr
  f_Calendar___and__ : Addr
  fd_Calendar___and__ : FuncData
  f_Calendar___eq__ : Addr
  fd_Calendar___eq__ : FuncData
  f_Calendar___invert__ : Addr
  fd_Calendar___invert__ : FuncData
  f_Calendar___or__ : Addr
  fd_Calendar___or__ : FuncData
  f__law_made : Addr
  fd__law_made : FuncData
  f__law_dip : Addr
  fd__law_dip : FuncData
  f__law_gcd : Addr
  fd__law_gcd : FuncData
  f__law_chosen : Addr
  fd__law_chosen : FuncData
  f__law_divisors : Addr
  fd__law_divisors : FuncData
  f__law_extra : Addr
  fd__law_extra : FuncData
  f__law_prime : Addr
  fd__law_prime : FuncData
  f__law_parts : Addr
  fd__law_parts : FuncData
  f__law_set : Addr
  fd__law_set : FuncData
  f_Calendar_divisors : Addr
  fd_Calendar_divisors : FuncData
  p_Calendar_divisors : Addr
  f_Calendar_number : Addr
  fd_Calendar_number : FuncData
  p_Calendar_number : Addr
  f__law_classes_right : Addr
  fd__law_classes_right : FuncData
  f__law_has : Addr
  fd__law_has : FuncData
  f__law_in : Addr
  fd__law_in : FuncData
  f__law_integers : Addr
  fd__law_integers : FuncData
  f__law_is_integer : Addr
  fd__law_is_integer : FuncData
  f__law_join : Addr
  fd__law_join : FuncData
  f__law_told_right : Addr
  fd__law_told_right : FuncData
  f__law_well : Addr
  fd__law_well : FuncData
  f__law_wide_right : Addr
  fd__law_wide_right : FuncData
  f_law : Addr
  fd_law : FuncData
  gC_Calendar : mg "Calendar" = some (.ref C_Calendar)
  cl_Calendar : Cls K C_Calendar
  mk_Calendar : Mk K C_Calendar f_Calendar___init__
  na_Calendar_chosen : NoAttr K C_Calendar "_chosen"
  na_Calendar_extra : NoAttr K C_Calendar "_extra"
  na_Calendar_number : NoAttr K C_Calendar "_number"
  F_Calendar__chooses : Fun K "_chooses" "Calendar._chooses" s_Calendar__chooses f_Calendar__chooses fd_Calendar__chooses
  b_Calendar__chooses : Binds K fd_Calendar__chooses ["self", "size"] []
  me_Calendar__chooses : Meth K C_Calendar "_chooses" f_Calendar__chooses
  F_Calendar___contains__ : Fun K "__contains__" "Calendar.__contains__" s_Calendar___contains__ f_Calendar___contains__ fd_Calendar___contains__
  b_Calendar___contains__ : Binds K fd_Calendar___contains__ ["self", "x"] []
  me_Calendar___contains__ : Meth K C_Calendar "__contains__" f_Calendar___contains__
  F__check : Fun K "_check" "_check" s__check f__check fd__check
  b__check : Binds K fd__check ["number", "divisors", "extra"] []
  g__check : mg "_check" = some (.ref f__check)
  F__is_needless : Fun K "_is_needless" "_is_needless" s__is_needless f__is_needless fd__is_needless
  b__is_needless : Binds K fd__is_needless ["prime", "number", "divisors", "chosen"] []
  g__is_needless : mg "_is_needless" = some (.ref f__is_needless)
  F_prime_list : Fun K "prime_list" "prime_list" s_prime_list f_prime_list fd_prime_list
  b_prime_list : Binds K fd_prime_list ["number"] []
  g_prime_list : mg "prime_list" = some (.ref f_prime_list)
  F_divisor_list : Fun K "divisor_list" "divisor_list" s_divisor_list f_divisor_list fd_divisor_list
  b_divisor_list : Binds K fd_divisor_list ["number"] []
  g_divisor_list : mg "divisor_list" = some (.ref f_divisor_list)
  F__least_number : Fun K "_least_number" "_least_number" s__least_number f__least_number fd__least_number
  b__least_number : Binds K fd__least_number ["number", "chosen"] []
  g__least_number : mg "_least_number" = some (.ref f__least_number)
  F_Calendar___init__ : Fun K "__init__" "Calendar.__init__" s_Calendar___init__ f_Calendar___init__ fd_Calendar___init__
  b_Calendar___init__ : Binds K fd_Calendar___init__ ["self", "number", "divisors", "extra"] []
  me_Calendar___init__ : Meth K C_Calendar "__init__" f_Calendar___init__
  F_Calendar_extra : Fun K "extra" "Calendar.extra" s_Calendar_extra f_Calendar_extra fd_Calendar_extra
  b_Calendar_extra : Binds K fd_Calendar_extra ["self"] []
  pr_Calendar_extra : PropOf K C_Calendar "extra" p_Calendar_extra f_Calendar_extra
  F_Calendar___and__ : Fun K "__and__" "Calendar.__and__" s_Calendar___and__ f_Calendar___and__ fd_Calendar___and__
  b_Calendar___and__ : Binds K fd_Calendar___and__ ["self", "other"] []
  me_Calendar___and__ : Meth K C_Calendar "__and__" f_Calendar___and__
  F_Calendar___eq__ : Fun K "__eq__" "Calendar.__eq__" s_Calendar___eq__ f_Calendar___eq__ fd_Calendar___eq__
  b_Calendar___eq__ : Binds K fd_Calendar___eq__ ["self", "other"] []
  me_Calendar___eq__ : Meth K C_Calendar "__eq__" f_Calendar___eq__
  F_Calendar___invert__ : Fun K "__invert__" "Calendar.__invert__" s_Calendar___invert__ f_Calendar___invert__ fd_Calendar___invert__
  b_Calendar___invert__ : Binds K fd_Calendar___invert__ ["self"] []
  me_Calendar___invert__ : Meth K C_Calendar "__invert__" f_Calendar___invert__
  F_Calendar___or__ : Fun K "__or__" "Calendar.__or__" s_Calendar___or__ f_Calendar___or__ fd_Calendar___or__
  b_Calendar___or__ : Binds K fd_Calendar___or__ ["self", "other"] []
  me_Calendar___or__ : Meth K C_Calendar "__or__" f_Calendar___or__
  F__law_made : Fun K "_law_made" "_law_made" s__law_made f__law_made fd__law_made
  b__law_made : Binds K fd__law_made ["one"] []
  g__law_made : mg "_law_made" = some (.ref f__law_made)
  F__law_dip : Fun K "_law_dip" "_law_dip" s__law_dip f__law_dip fd__law_dip
  b__law_dip : Binds K fd__law_dip ["well", "many"] []
  g__law_dip : mg "_law_dip" = some (.ref f__law_dip)
  F__law_gcd : Fun K "_law_gcd" "_law_gcd" s__law_gcd f__law_gcd fd__law_gcd
  b__law_gcd : Binds K fd__law_gcd ["one", "other"] []
  g__law_gcd : mg "_law_gcd" = some (.ref f__law_gcd)
  F__law_chosen : Fun K "_law_chosen" "_law_chosen" s__law_chosen f__law_chosen fd__law_chosen
  b__law_chosen : Binds K fd__law_chosen ["well", "divisors"] []
  g__law_chosen : mg "_law_chosen" = some (.ref f__law_chosen)
  F__law_divisors : Fun K "_law_divisors" "_law_divisors" s__law_divisors f__law_divisors fd__law_divisors
  b__law_divisors : Binds K fd__law_divisors ["parts"] []
  g__law_divisors : mg "_law_divisors" = some (.ref f__law_divisors)
  F__law_extra : Fun K "_law_extra" "_law_extra" s__law_extra f__law_extra fd__law_extra
  b__law_extra : Binds K fd__law_extra ["well", "divisors", "run"] []
  g__law_extra : mg "_law_extra" = some (.ref f__law_extra)
  F__law_prime : Fun K "_law_prime" "_law_prime" s__law_prime f__law_prime fd__law_prime
  b__law_prime : Binds K fd__law_prime ["at"] []
  g__law_prime : mg "_law_prime" = some (.ref f__law_prime)
  F__law_parts : Fun K "_law_parts" "_law_parts" s__law_parts f__law_parts fd__law_parts
  b__law_parts : Binds K fd__law_parts ["well", "most", "limit"] []
  g__law_parts : mg "_law_parts" = some (.ref f__law_parts)
  F__law_set : Fun K "_law_set" "_law_set" s__law_set f__law_set fd__law_set
  b__law_set : Binds K fd__law_set ["well", "most", "limit", "run"] []
  g__law_set : mg "_law_set" = some (.ref f__law_set)
  F_Calendar_divisors : Fun K "divisors" "Calendar.divisors" s_Calendar_divisors f_Calendar_divisors fd_Calendar_divisors
  b_Calendar_divisors : Binds K fd_Calendar_divisors ["self"] []
  pr_Calendar_divisors : PropOf K C_Calendar "divisors" p_Calendar_divisors f_Calendar_divisors
  F_Calendar_number : Fun K "number" "Calendar.number" s_Calendar_number f_Calendar_number fd_Calendar_number
  b_Calendar_number : Binds K fd_Calendar_number ["self"] []
  pr_Calendar_number : PropOf K C_Calendar "number" p_Calendar_number f_Calendar_number
  F__law_classes_right : Fun K "_law_classes_right" "_law_classes_right" s__law_classes_right f__law_classes_right fd__law_classes_right
  b__law_classes_right : Binds K fd__law_classes_right ["parts", "wide", "due", "number", "told"] []
  g__law_classes_right : mg "_law_classes_right" = some (.ref f__law_classes_right)
  F__law_has : Fun K "_law_has" "_law_has" s__law_has f__law_has fd__law_has
  b__law_has : Binds K fd__law_has ["size", "number", "chosen", "extra"] []
  g__law_has : mg "_law_has" = some (.ref f__law_has)
  F__law_in : Fun K "_law_in" "_law_in" s__law_in f__law_in fd__law_in
  b__law_in : Binds K fd__law_in ["size", "one"] []
  g__law_in : mg "_law_in" = some (.ref f__law_in)
  F__law_integers : Fun K "_law_integers" "_law_integers" s__law_integers f__law_integers fd__law_integers
  b__law_integers : Binds K fd__law_integers ["told"] []
  g__law_integers : mg "_law_integers" = some (.ref f__law_integers)
  F__law_is_integer : Fun K "_law_is_integer" "_law_is_integer" s__law_is_integer f__law_is_integer fd__law_is_integer
  b__law_is_integer : Binds K fd__law_is_integer ["told"] []
  g__law_is_integer : mg "_law_is_integer" = some (.ref f__law_is_integer)
  F__law_join : Fun K "_law_join" "_law_join" s__law_join f__law_join fd__law_join
  b__law_join : Binds K fd__law_join ["parts", "others"] []
  g__law_join : mg "_law_join" = some (.ref f__law_join)
  F__law_told_right : Fun K "_law_told_right" "_law_told_right" s__law_told_right f__law_told_right fd__law_told_right
  b__law_told_right : Binds K fd__law_told_right ["one", "other", "both", "calendar"] []
  g__law_told_right : mg "_law_told_right" = some (.ref f__law_told_right)
  F__law_well : Fun K "_law_well" "_law_well" s__law_well f__law_well fd__law_well
  b__law_well : Binds K fd__law_well ["script", "k"] []
  g__law_well : mg "_law_well" = some (.ref f__law_well)
  F__law_wide_right : Fun K "_law_wide_right" "_law_wide_right" s__law_wide_right f__law_wide_right fd__law_wide_right
  b__law_wide_right : Binds K fd__law_wide_right ["well"] []
  g__law_wide_right : mg "_law_wide_right" = some (.ref f__law_wide_right)
  F_law : Fun K "law" "law" s_law f_law fd_law
  b_law : Binds K fd_law ["script"] []
  g_law : mg "law" = some (.ref f_law)
  z_abs : mg "abs" = none
  z_all : mg "all" = none
  z_bool : mg "bool" = none
  z_int : mg "int" = none
  z_isinstance : mg "isinstance" = none
  z_len : mg "len" = none
  z_list : mg "list" = none
  z_max : mg "max" = none
  z_min : mg "min" = none
  z_range : mg "range" = none
  z_set : mg "set" = none
  z_sorted : mg "sorted" = none
  m_gcd : mg "gcd" = some (.builtin "math.gcd")
  m_lcm : mg "lcm" = some (.builtin "math.lcm")
  ic_Calendar : IsiC K C_Calendar
  sf_Calendar : PySem.W.selfFirst K C_Calendar = true

section
variable {P : Program} {w : World} {K : PySem.W.Frag} {mg : Str → Option Value} {base : Heap}
/-! #### Calendar._chooses: 0 self, 1 size -/
def sp_Calendar__chooses (T : Txt K mg) : Sp := fun vs H Q _ => ∃ (r dx c x : Addr) (n : Nat) (cs : List Nat) (z : Int), vs = [.ref r, .int z] ∧ (H r = some (.ins T.C_Calendar dx (fsC n c x))) ∧ (H c = some (.dK (dI cs))) ∧ (1 ≤ n) ∧ (n ≤ 10 ^ 24) ∧ (Sz 400 z) ∧ Q (.bl (decide (Int.gcd z n ∈ cs))) H
theorem len_Calendar__chooses {vs H Q E} (T : Txt K mg) (h : sp_Calendar__chooses T vs H Q E) : vs.length = 2 := by obtain ⟨r, dx, c, x, n, cs, z, rfl, _⟩ := h; rfl
theorem use_chooses_raw {T : Txt K mg} {H : Hp} {Q : VK} {E : XK} {r dx c x : Addr} {n : Nat} {cs : List Nat} {z : Int} (h1 : H r = some (.ins T.C_Calendar dx (fsC n c x))) (h2 : H c = some (.dK (dI cs))) (n1 : 1 ≤ n) (n2 : n ≤ 10 ^ 24) (sz : Sz 400 z) (k : Q (.bl (decide (Int.gcd z n ∈ cs))) H) : sp_Calendar__chooses T [.ref r, .int z] H Q E := ⟨r, dx, c, x, n, cs, z, rfl, h1, h2, n1, n2, sz, k⟩
local macro_rules | `(tactic| show "own") => `(tactic| (((with_reducible refine' use_chooses_raw ?s1 ?s2 ?s3 ?s4 ?s5 ?nxt); (case s1 => (show "hp")); (case s2 => (show "hp")); (case s3 => (omega)); (case s4 => (omega)); (case s5 => (show "szf")); (case' nxt => skip))))
theorem use_Calendar__chooses {T : Txt K mg} {H : Hp} {Q : VK} {E : XK} {r : Addr} {n : Nat} {cs xs : List Nat} {z : Int} (h1 : Cal T.C_Calendar H r n cs xs) (sz : Sz 400 z) (k : Q (.bl (decide (Int.gcd z n ∈ cs))) H) : sp_Calendar__chooses T [.ref r, .int z] H Q E := by
  obtain ⟨⟨dx, c, x, a1, a2, a3⟩, ok, _⟩ := h1
  exact use_chooses_raw a1 a2 ok.n1 ok.nm sz k
local macro_rules | `(tactic| show "own") => `(tactic| (((with_reducible (with_reducible refine' use_Calendar__chooses ?s1 ?s2 ?nxt)); (case s1 => (show "cal")); (case s2 => (show "szf")); (case' nxt => skip))))

theorem ok_Calendar__chooses (T : Txt K mg) : FnOk P w K mg base CX0 1 T.f_Calendar__chooses T.fd_Calendar__chooses ["self", "size"] (sp_Calendar__chooses T) := by
  refine T.F_Calendar__chooses.ok sc_Calendar__chooses (fun vs H Q E h => ?_) (fun cdv A outer s H vs Q E hr h => ?_)
  · exact len_Calendar__chooses T h
  · refine ⟨_, (pss_one (ps_ret (pe_cmpR (op_inD hr.units) (pe_callBfun cr_gcd (by rfl) T.m_gcd (pa_cons (pv 1) (pa_cons (pe_fldK (K := K) rfl (pv 0) rfl) pa_nil))) (pe_fldK (K := K) rfl (pv 0) rfl) (by rfl)))), ?_⟩
    clear hr
    obtain ⟨r, dx, c, x, n, cs, z, rfl, h1, h2, n1, n2, sz, k⟩ := h
    refine st_eq (σ' := [some _, some _]) rfl ?_
    have hc := T.cl_Calendar
    have na1 := T.na_Calendar_number
    have na2 := T.na_Calendar_chosen
    have sn : Sz 90 (n : Int) := Sz.mk (by omega)
    show "go"
    rw [show gcdZ z n = ((Int.gcd z n : Nat) : Int) from gcdZ_nat z n]
    refine o_inD h2 (dI_keys cs) ?_
    exact k
/-! #### Calendar.__contains__: 0 self, 1 x -/
def sp_Calendar___contains__ (T : Txt K mg) : Sp := fun vs H Q _ => ∃ (r : Addr) (n : Nat) (cs xs : List Nat) (z : Int), vs = [.ref r, .int z] ∧ (Cal T.C_Calendar H r n cs xs) ∧ (Sz 400 z) ∧ Q (.bl (decide (InC n cs xs z))) H
theorem len_Calendar___contains__ {vs H Q E} (T : Txt K mg) (h : sp_Calendar___contains__ T vs H Q E) : vs.length = 2 := by obtain ⟨r, n, cs, xs, z, rfl, _⟩ := h; rfl
theorem use_Calendar___contains__ {T : Txt K mg} {H : Hp} {Q : VK} {E : XK} {r : Addr} {n : Nat} {cs xs : List Nat} {z : Int} (h1 : Cal T.C_Calendar H r n cs xs) (sz : Sz 400 z) (k : Q (.bl (decide (InC n cs xs z))) H) : sp_Calendar___contains__ T [.ref r, .int z] H Q E := ⟨r, n, cs, xs, z, rfl, h1, sz, k⟩
local macro_rules | `(tactic| show "own") => `(tactic| (((with_reducible refine' use_Calendar___contains__ ?s1 ?s2 ?nxt); (case s1 => (show "cal")); (case s2 => (show "szf")); (case' nxt => skip))))

theorem ok_Calendar___contains__ (T : Txt K mg) : FnOk P w K mg base CX0 2 T.f_Calendar___contains__ T.fd_Calendar___contains__ ["self", "x"] (sp_Calendar___contains__ T) := by
  have G_Calendar__chooses : FnOk P w K mg base CX0 1 T.f_Calendar__chooses T.fd_Calendar__chooses ["self", "size"] (sp_Calendar__chooses T) := ok_Calendar__chooses T
  refine T.F_Calendar___contains__.ok sc_Calendar___contains__ (fun vs H Q E h => ?_) (fun cdv A outer s H vs Q E hr h => ?_)
  · exact len_Calendar___contains__ T h
  · refine ⟨_, (pss_one (ps_ret (pe_and (pe_cmpR op_geU (pv 1) pe_int (nomark _)) (pe_one (pe_cmpR (op_neK (K := K) rfl hr.units) (pe_meth (pv 0) T.cl_Calendar T.me_Calendar__chooses G_Calendar__chooses (hr.mono (by decide)) T.b_Calendar__chooses .nil pass0 (pa_cons (pv 1) pa_nil)) (pe_cmpR (op_inD hr.units) (pv 1) (pe_fldK (K := K) rfl (pv 0) rfl) (by rfl)) (nomark _)))))), ?_⟩
    clear hr
    obtain ⟨r, n, cs, xs, z, rfl, h1, sz, k⟩ := h
    refine st_eq (σ' := [some _, some _]) rfl ?_
    have hcal := h1
    obtain ⟨⟨dx, c, x, h1, h2, h3⟩, hok, _⟩ := h1
    have n2 := hok.nm
    have hc := T.cl_Calendar
    have na3 := T.na_Calendar_extra
    have sn : Sz 90 (n : Int) := Sz.mk (by omega)
    show "go"
    by_cases e1 : 1 ≤ z
    · obtain ⟨w, rfl⟩ : ∃ w : Nat, z = (w : Int) := ⟨z.toNat, by omega⟩
      refine andv_y e1 ?_
      show "go"
      refine o_inD h3 (dI_keys xs) ?_
      show "go"
      have e4 : (!decide (V.bl (decide (Int.gcd (w : Int) n ∈ cs)) = V.bl (decide (w ∈ xs)))) = decide (Int.gcd (w : Int) n ∈ cs ↔ ¬ w ∈ xs) := cal_in
      rw [e4]
      have e2 : ((1 : Int) ≤ (w : Int) ∧ ((Int.gcd (w : Int) n ∈ cs) ↔ ¬ ((w : Int).toNat ∈ xs))) ↔ (Int.gcd (w : Int) n ∈ cs ↔ ¬ w ∈ xs) := ⟨fun q => q.2, fun q => ⟨e1, q⟩⟩
      have e5 : decide (InC n cs xs (w : Int)) = decide (Int.gcd (w : Int) n ∈ cs ↔ ¬ w ∈ xs) := decide_eq_decide.mpr e2
      rw [e5] at k
      exact k
    · refine andv_n e1 ?_
      rw [decide_eq_false (fun q : InC n cs xs z => e1 q.1)] at k
      exact k
/-! #### _check: 0 number, 1 divisors, 2 extra, 3 divisor, 4 size -/
def sp__check (T : Txt K mg) : Sp := fun vs H Q _ => ∃ (n : Nat) (D X : Addr) (ds xs : List Nat), vs = [.int (n : Int), .ref D, .ref X] ∧ (1 ≤ n) ∧ (n ≤ 10 ^ 24) ∧ (H D = some (.lst (nI ds))) ∧ (H X = some (.lst (nI xs))) ∧ (∀ d ∈ ds, d ∣ n) ∧ (∀ x ∈ xs, 1 ≤ x ∧ x ≤ 10 ^ 30) ∧ Q .non H
theorem len__check {vs H Q E} (T : Txt K mg) (h : sp__check T vs H Q E) : vs.length = 3 := by obtain ⟨n, D, X, ds, xs, rfl, _⟩ := h; rfl
theorem use__check {T : Txt K mg} {H : Hp} {Q : VK} {E : XK} {n : Nat} {D X : Addr} {ds xs : List Nat} (h1 : 1 ≤ n) (h2 : n ≤ 10 ^ 24) (h3 : H D = some (.lst (nI ds))) (h4 : H X = some (.lst (nI xs))) (h5 : ∀ d ∈ ds, d ∣ n) (h6 : ∀ x ∈ xs, 1 ≤ x ∧ x ≤ 10 ^ 30) (k : Q .non H) : sp__check T [.int (n : Int), .ref D, .ref X] H Q E := ⟨n, D, X, ds, xs, rfl, h1, h2, h3, h4, h5, h6, k⟩
local macro_rules | `(tactic| show "own") => `(tactic| (((with_reducible refine' use__check ?s1 ?s2 ?s3 ?s4 ?s5 ?s6 ?nxt); (case s1 => (omega)); (case s2 => (omega)); (case s3 => (show "hp")); (case s4 => (show "hp")); (case s5 => (assumption)); (case s6 => (assumption)); (case' nxt => skip))))

theorem ok__check (T : Txt K mg) : FnOk P w K mg base CX0 1 T.f__check T.fd__check ["number", "divisors", "extra"] (sp__check T) := by
  refine T.F__check.ok sc__check (fun vs H Q E h => ?_) (fun cdv A outer s H vs Q E hr h => ?_)
  · exact len__check T h
  · refine ⟨_, (pss_cons (ps_if (pt_cmpR op_ltU (pv 0) pe_int (nomark _)) (pss_one ps_never) pss_nil)
    (pss_cons (ps_for PassesOwn.never rfl (pi_listK (K := K) rfl (pv 1)) (pg_name (i := 3) sc__check.nd rfl (Or.inl rfl)) (pss_one (ps_if (PW.pt (pw_or (pt_cmpR op_ltU (pv 3) pe_int (nomark _)) (pw_or1 (pt_cmpR (op_neK (K := K) rfl hr.units) (pe_op op_modU (pv 0) (pv 3)) pe_int (nomark _))))) (pss_one ps_never) pss_nil)))
    (pss_one (ps_for PassesOwn.never rfl (pi_listK (K := K) rfl (pv 2)) (pg_name (i := 4) sc__check.nd rfl (Or.inl rfl)) (pss_one (ps_if (pt_cmpR op_ltU (pv 4) pe_int (nomark _)) (pss_one ps_never) pss_nil)))))), ?_⟩
    clear hr
    obtain ⟨n, D, X, ds, xs, rfl, h1, h2, h3, h4, h5, h6, k⟩ := h
    refine st_eq (σ' := [some _, some _, some _, none, none]) rfl ?_
    have sn : Sz 90 (n : Int) := Sz.mk (by omega)
    show "go"
    refine f_list (fun i σ' H' => H' = H ∧ ∃ v3 v4, σ' = [some (.int (n : Int)), some (.ref D), some (.ref X), v3, v4]) (SqL.of h3) ⟨rfl, _, _, rfl⟩ (fun i σ' H' _ q => SqL.of (by rw [q.1]; exact h3)) ?_ ?_
    · rintro i e σ' H' hi2 ⟨rfl, v3, v4, rfl⟩
      obtain ⟨d, rfl, hd⟩ := nI_at hi2
      have dd := h5 d (List.mem_of_getElem? hd)
      have dl := Nat.le_of_dvd h1 dd
      have d1 : 1 ≤ d := Nat.pos_of_dvd_of_pos dd h1
      have sd : Sz 90 (d : Int) := Sz.mk (by omega)
      have e0 : (n : Int) % (d : Int) = 0 := Int.emod_eq_zero_of_dvd (Int.natCast_dvd_natCast.mpr dd)
      show "go"
      exact ⟨rfl, _, _, rfl⟩
    · rintro σ' H' ⟨rfl, v3, v4, rfl⟩
      show "go"
      refine f_list (fun i σ' H'' => H'' = H' ∧ ∃ v3 v4, σ' = [some (.int (n : Int)), some (.ref D), some (.ref X), v3, v4]) (SqL.of h4) ⟨rfl, _, _, rfl⟩ (fun i σ' H'' _ q => SqL.of (by rw [q.1]; exact h4)) ?_ ?_
      · rintro i e σ' H'' hi2 ⟨rfl, v3, v4, rfl⟩
        obtain ⟨d, rfl, hd⟩ := nI_at hi2
        have dd := h6 d (List.mem_of_getElem? hd)
        show "go"
        exact ⟨rfl, _, _, rfl⟩
      · rintro σ' H'' ⟨rfl, v3, v4, rfl⟩
        show "go"
        exact k
/-! #### _is_needless: 0 prime, 1 number, 2 divisors, 3 chosen, 4 full, 5 divisor -/
def sp__is_needless (T : Txt K mg) : Sp := fun vs H Q _ => ∃ (p r : Nat) (D C_ : Addr) (ds cs : List Nat) (kvs : List (Key × V)), vs = [.int (p : Int), .int (r : Int), .ref D, .ref C_] ∧ (2 ≤ p) ∧ (p ≤ 10 ^ 24) ∧ (1 ≤ r) ∧ (r ≤ 10 ^ 24) ∧ (H D = some (.lst (nI ds))) ∧ (H C_ = some (.dK kvs)) ∧ (Keys kvs cs) ∧ (∀ d ∈ ds, 1 ≤ d ∧ d ≤ 10 ^ 24) ∧ (ds.length ≤ 50000) ∧ ∀ (b : Bool) H', Same H H' → (b = true ↔ Needless p r ds cs) → Q (.bl b) H'
theorem len__is_needless {vs H Q E} (T : Txt K mg) (h : sp__is_needless T vs H Q E) : vs.length = 4 := by obtain ⟨p, r, D, C_, ds, cs, kvs, rfl, _⟩ := h; rfl
theorem use__is_needless {T : Txt K mg} {H : Hp} {Q : VK} {E : XK} {p r : Nat} {D C_ : Addr} {ds cs : List Nat} {kvs : List (Key × V)} (p1 : 2 ≤ p) (p2 : p ≤ 10 ^ 24) (r1 : 1 ≤ r) (r2 : r ≤ 10 ^ 24) (h3 : H D = some (.lst (nI ds))) (h4 : H C_ = some (.dK kvs)) (h5 : Keys kvs cs) (h6 : ∀ d ∈ ds, 1 ≤ d ∧ d ≤ 10 ^ 24) (h7 : ds.length ≤ 50000) (k : ∀ (b : Bool) H', Same H H' → (b = true ↔ Needless p r ds cs) → Q (.bl b) H') : sp__is_needless T [.int (p : Int), .int (r : Int), .ref D, .ref C_] H Q E := ⟨p, r, D, C_, ds, cs, kvs, rfl, p1, p2, r1, r2, h3, h4, h5, h6, h7, k⟩
local macro_rules | `(tactic| show "own") => `(tactic| (((with_reducible refine' use__is_needless ?s1 ?s2 ?s3 ?s4 ?s5 ?s6 ?s7 ?s8 ?s9 ?nxt); (case s1 => (omega)); (case s2 => (omega)); (case s3 => (omega)); (case s4 => (omega)); (case s5 => (show "hp")); (case s6 => (show "hp")); (case s7 => (assumption)); (case s8 => (assumption)); (case s9 => (omega)); (case' nxt => skip)); intro _ _ _ _))

theorem ok__is_needless (T : Txt K mg) : FnOk P w K mg base CX0 1 T.f__is_needless T.fd__is_needless ["prime", "number", "divisors", "chosen"] (sp__is_needless T) := by
  refine T.F__is_needless.ok sc__is_needless (fun vs H Q E h => ?_) (fun cdv A outer s H vs Q E hr h => ?_)
  · exact len__is_needless T h
  · refine ⟨_, (pss_cons (ps_setLc (i := 4) (own := [("divisor", 5)]) rfl sc__is_needless.nd rfl rfl (sw_true rfl rfl rfl (by decide +kernel)) (pi_listK (K := K) rfl (pv 2)) (blkOk_by (own := [("divisor", 5)]) (N := N__is_needless) (sc := defScope s__is_needless) (by first | decide +kernel | rfl)) (fun _ _ _ _ _ => (pg_name (i := 5) sc__is_needless.nd rfl (by first | exact Or.inl rfl | exact Or.inr rfl))) (fun _ _ _ _ _ => (pts_one (PW.pt (pw_and (pt_cmpR (op_eqK (K := K) rfl hr.units) (pe_op op_modU (pv 1) (pv 5)) pe_int (nomark _)) (pw_and1 (pt_cmpR (op_neK (K := K) rfl hr.units) (pe_op op_modU (pe_op op_fdivU (pv 1) (pv 5)) (pv 0)) pe_int (nomark _))))))) (fun _ _ _ _ _ => (pv 5)))
    (pss_one (ps_ret (pe_callB (c_allK (K := K) rfl rfl) (by rfl) T.z_all (by decide +kernel) (pa_cons (pe_lc (own := [("divisor", 5)]) rfl sc__is_needless.nd (pi_listK (K := K) rfl (pv 4)) (blkOk_by (own := [("divisor", 5)]) (N := N__is_needless) (sc := defScope s__is_needless) (by first | decide +kernel | rfl)) (fun _ _ _ _ _ => (pg_name (i := 5) sc__is_needless.nd rfl (by first | exact Or.inl rfl | exact Or.inr rfl))) (fun _ _ _ _ _ => pts_nil) (fun _ _ _ _ _ => (pe_cmpR (op_eqK (K := K) rfl hr.units) (pe_cmpR (op_inD hr.units) (pv 5) (pv 3) (by rfl)) (pe_cmpR (op_inD hr.units) (pe_op op_fdivU (pv 5) (pv 0)) (pv 3) (by rfl)) (nomark _)))) pa_nil))))), ?_⟩
    clear hr
    obtain ⟨p, r, D, C_, ds, cs, kvs, rfl, p1, p2, r1, r2, h3, h4, h5, h6, h7, k⟩ := h
    refine st_eq (σ' := [some _, some _, some _, some _, none, none]) rfl ?_
    have sp : Sz 90 (p : Int) := Sz.mk (by omega)
    have sr : Sz 90 (r : Int) := Sz.mk (by omega)
    have nl : (nI ds).length ≤ 50000 := by rw [List.length_map]; exact h7
    show "go"
    refine lc_fun (fullF p r) (SqL.of h3) (by omega) ?_ ?_
    · intro x hx H1 s8 R kR
      obtain ⟨j, hj⟩ := List.mem_iff_getElem?.mp hx
      obtain ⟨d, rfl, hd2⟩ := nI_at hj
      obtain ⟨d1, dn⟩ := h6 d (List.mem_of_getElem? hd2)
      have sd : Sz 90 (d : Int) := Sz.mk (by omega)
      have kR' : ∀ H2, Same H1 H2 → R (if (r : Int) % (d : Int) = 0 ∧ ¬ (r : Int) / (d : Int) % (p : Int) = 0 then some (.int (d : Int)) else none) H2 := kR
      clear kR
      show "go"
      by_cases e1 : (r : Int) % (d : Int) = 0
      · refine and_y e1 ?_
        show "go"
        by_cases e2 : (r : Int) / (d : Int) % (p : Int) = 0
        · rw [if_neg (fun q => q.2 e2)] at kR'
          rw [decide_eq_true e2]
          exact kR' _ (Same.refl _)
        · rw [if_pos ⟨e1, e2⟩] at kR'
          rw [decide_eq_false e2]
          refine lce_T ?_
          show "go"
          exact kR' _ (Same.refl _)
      · rw [if_neg (fun q => e1 q.1)] at kR'
        refine and_n e1 ?_
        show "go"
        exact kR' _ (Same.refl _)
    intro F HF fF tF hF
    rw [fullF_fm] at hF
    have fl : (nI (ds.filter fun d => decide (d ∣ r ∧ ¬ p ∣ r / d))).length ≤ 50000 := by
      rw [List.length_map]
      exact Nat.le_trans (List.length_filter_le _ _) h7
    have hC := tF _ _ h4
    show "go"
    refine lc_fun (cmpF p cs) (SqL.of hF) (by omega) ?_ ?_
    · intro x hx H1 s8 R kR
      obtain ⟨j, hj⟩ := List.mem_iff_getElem?.mp hx
      obtain ⟨d, rfl, hd2⟩ := nI_at hj
      obtain ⟨d1, dn⟩ := h6 d (List.mem_filter.mp (List.mem_of_getElem? hd2)).1
      have sd : Sz 90 (d : Int) := Sz.mk (by omega)
      have kR' : ∀ H2, Same H1 H2 → R (some (.bl (decide (V.bl (decide (d ∈ cs)) = V.bl (decide (d / p ∈ cs)))))) H2 := kR
      clear kR
      have hC1 := s8 _ _ hC
      show "go"
      refine o_inD hC1 h5 ?_
      show "go"
      refine o_inD (z := d / p) hC1 h5 ?_
      show "go"
      exact kR' _ (Same.refl _)
    intro G HG fG tG hG
    rw [cmpF_fm] at hG
    show "go"
    exact ⟨G, _, rfl, SqL.of hG, k _ _ (by show "same") (all_needless p r ds cs)⟩
/-! #### prime_list: 0 number, 1 primes, 2 rest, 3 prime -/
def sp_prime_list (T : Txt K mg) : Sp := fun vs H Q _ => ∃ (n : Nat), vs = [.int (n : Int)] ∧ (1 ≤ n) ∧ (n ≤ 10 ^ 24) ∧ ∀ D ps H', Fr H D → Same H H' → H' D = some (.lst (nI ps)) → Primes n ps → Q (.ref D) H'
theorem len_prime_list {vs H Q E} (T : Txt K mg) (h : sp_prime_list T vs H Q E) : vs.length = 1 := by obtain ⟨n, rfl, _⟩ := h; rfl
theorem use_prime_list {T : Txt K mg} {H : Hp} {Q : VK} {E : XK} {n : Nat} (h1 : 1 ≤ n) (h2 : n ≤ 10 ^ 24) (k : ∀ D ps H', Fr H D → Same H H' → H' D = some (.lst (nI ps)) → Primes n ps → Q (.ref D) H') : sp_prime_list T [.int (n : Int)] H Q E := ⟨n, rfl, h1, h2, k⟩
local macro_rules | `(tactic| show "own") => `(tactic| (((with_reducible refine' use_prime_list ?s1 ?s2 ?nxt); (case s1 => (omega)); (case s2 => (omega)); (case' nxt => skip)); intro _ _ _ _ _ _ _))

theorem ok_prime_list (T : Txt K mg) : FnOk P w K mg base CX0 1 T.f_prime_list T.fd_prime_list ["number"] (sp_prime_list T) := by
  refine T.F_prime_list.ok sc_prime_list (fun vs H Q E h => ?_) (fun cdv A outer s H vs Q E hr h => ?_)
  · exact len_prime_list T h
  · refine ⟨_, (pss_cons (ps_set (i := 1) sc_prime_list.nd rfl (Or.inl rfl) (pe_lst pa_nil))
    (pss_cons (ps_set (i := 2) sc_prime_list.nd rfl (Or.inl rfl) (pv 0))
    (pss_cons (ps_set (i := 3) sc_prime_list.nd rfl (Or.inl rfl) pe_int)
    (pss_cons (ps_while PassesOwn.never (pt_cmpR op_leU (pe_op op_mulU (pv 3) (pv 3)) (pv 2) (nomark _)) (pss_cons (ps_if (pt_cmpR (op_eqK (K := K) rfl hr.units) (pe_op op_modU (pv 2) (pv 3)) pe_int (nomark _)) (pss_one (ps_expr (pe_bmK (K := K) rfl PySem.F.plainAttrs_list PySem.F.slot_list_append PySem.F.type_list_append mt_append (pv 1) (pa_cons (pv 3) pa_nil)))) pss_nil)
    (pss_cons (ps_while PassesOwn.never (pt_cmpR (op_eqK (K := K) rfl hr.units) (pe_op op_modU (pv 2) (pv 3)) pe_int (nomark _)) (pss_one (ps_set (i := 2) sc_prime_list.nd rfl (Or.inl rfl) (pe_op op_fdivU (pv 2) (pv 3)))))
    (pss_one (ps_aug (i := 3) sc_prime_list.nd rfl (Or.inl rfl) pe_int ip_add)))))
    (pss_cons (ps_if (pt_cmpR op_gtU (pv 2) pe_int (nomark _)) (pss_one (ps_expr (pe_bmK (K := K) rfl PySem.F.plainAttrs_list PySem.F.slot_list_append PySem.F.type_list_append mt_append (pv 1) (pa_cons (pv 2) pa_nil)))) pss_nil)
    (pss_one (ps_ret (pv 1)))))))), ?_⟩
    clear hr
    obtain ⟨n, rfl, h1, h2, k⟩ := h
    refine st_eq (σ' := [some _, none, none, none]) rfl ?_
    have sn : Sz 90 (n : Int) := Sz.mk (by omega)
    show "go"
    rename_i L HL L1 L2 L3
    refine f_while (fun m σ' H' => SB L HL H' ∧ ∃ ps q r, σ' = [some (.int (n : Int)), some (.ref L), some (.int ((r : Nat) : Int)), some (.int ((q : Nat) : Int))] ∧ H' L = some (.lst (nI ps)) ∧ Srch n ps q r ∧ q ≤ n + 1 ∧ m = n + 1 - q) ⟨_, SB.refl _ _, [], 2, n, rfl, L3, Srch.start h1, by omega, rfl⟩ ?_
    rintro m σ' H' ⟨s6, ps, q, r, rfl, hL, hS, hq, rfl⟩
    have rn : r ≤ n := Nat.le_of_dvd h1 hS.rn
    have sr : Sz 90 (r : Int) := Sz.mk (by omega)
    have sq : Sz 91 (q : Int) := Sz.mk (by omega)
    have pl : ps.length ≤ 90 := pw_len (Nat.le_trans (Nat.le_mul_of_pos_right _ hS.r1) hS.len) h2
    have r1 := hS.r1
    have q2 := hS.q2
    show "go"
    refine wh_2 (fun e1 => ?_) (fun e1 => ?_)
    · show "go"
      refine ifs_2 (fun e2 => ?_) (fun e2 => ?_)
      · have pl2 : (nI ps).length ≤ 90 := by rw [List.length_map]; exact pl
        show "go"
        rename_i H2 s8 h8
        refine f_while (fun m2 σ' H' => SB L HL H' ∧ ∃ r2 : Nat, σ' = [some (.int (n : Int)), some (.ref L), some (.int (r2 : Int)), some (.int (q : Int))] ∧ H' L = some (.lst (nI (ps ++ [q]))) ∧ Outs n (ps ++ [q]) q r2 ∧ m2 = r2) ⟨_, by show "sb", r, rfl, by rw [nI_snoc]; show "hp", hS.found (mod0 e2), rfl⟩ ?_
        rintro m2 σ' H' ⟨s7, r2, rfl, hL2, hO, hm2⟩
        have r2n : r2 ≤ n := Nat.le_of_dvd h1 hO.rn
        have sr2 : Sz 90 (r2 : Int) := Sz.mk (by omega)
        have q0 : (q : Int) ≠ 0 := by omega
        have rq2 : q ≤ n := by
          have : (q : Int) * 1 ≤ (q : Int) * q := Int.mul_le_mul_of_nonneg_left (by omega) (by omega)
          omega
        show "go"
        refine wh_2 (fun e3 => ?_) (fun e3 => ?_)
        · obtain ⟨hO2, lt⟩ := hO.div (mod0 e3)
          show "go"
          exact ⟨_, by omega, s7, _, rfl, hL2, hO2, rfl⟩
        · show "go"
          exact ⟨_, by omega, s7, ps ++ [q], q + 1, r2, rfl, hL2, hO.next (mod0' e3), by omega, rfl⟩
      · show "go"
        refine f_while (fun m2 σ' H' => SB L HL H' ∧ ∃ r2 : Nat, σ' = [some (.int (n : Int)), some (.ref L), some (.int (r2 : Int)), some (.int (q : Int))] ∧ H' L = some (.lst (nI (ps))) ∧ Outs n (ps) q r2 ∧ m2 = r2) ⟨_, by show "sb", r, rfl, hL, hS.out (mod0' e2), rfl⟩ ?_
        rintro m2 σ' H' ⟨s7, r2, rfl, hL2, hO, hm2⟩
        have r2n : r2 ≤ n := Nat.le_of_dvd h1 hO.rn
        have sr2 : Sz 90 (r2 : Int) := Sz.mk (by omega)
        have q0 : (q : Int) ≠ 0 := by omega
        have rq2 : q ≤ n := by
          have : (q : Int) * 1 ≤ (q : Int) * q := Int.mul_le_mul_of_nonneg_left (by omega) (by omega)
          omega
        show "go"
        refine wh_2 (fun e3 => ?_) (fun e3 => ?_)
        · obtain ⟨hO2, lt⟩ := hO.div (mod0 e3)
          show "go"
          exact ⟨_, by omega, s7, _, rfl, hL2, hO2, rfl⟩
        · show "go"
          exact ⟨_, by omega, s7, ps, q + 1, r2, rfl, hL2, hO.next (mod0' e3), by omega, rfl⟩
    · have hlt : r < q * q := by
        have : (r : Int) < ((q * q : Nat) : Int) := by push_cast; omega
        omega
      show "go"
      refine ifs_2 (fun e2 => ?_) (fun e2 => ?_)
      · have pl2 : (nI ps).length ≤ 90 := by rw [List.length_map]; exact pl
        show "go"
        exact k L (ps ++ [r]) _ ⟨Same.back (by show "same") L1.out⟩ (SB.same (by show "same") L1 (by show "sb")) (by rw [nI_snoc]; show "hp") (hS.last (by omega) hlt)
      · show "go"
        exact k L ps _ L1 (SB.same (by show "same") L1 (by show "sb")) hL (hS.one (by omega))
/-! #### divisor_list: 0 number, 1 divisors, 2 prime, 3 without, 4 power, 5 divisor -/
def sp_divisor_list (T : Txt K mg) : Sp := fun vs H Q _ => ∃ (n m : Nat), vs = [.int (n : Int)] ∧ (1 ≤ n) ∧ (n ≤ 10 ^ 24) ∧ (Few n m) ∧ (m ≤ 50000) ∧ ∀ D ds H', Fr H D → Same H H' → H' D = some (.lst (nI ds)) → AllDivs n ds → Q (.ref D) H'
theorem len_divisor_list {vs H Q E} (T : Txt K mg) (h : sp_divisor_list T vs H Q E) : vs.length = 1 := by obtain ⟨n, m, rfl, _⟩ := h; rfl
theorem use_divisor_list {T : Txt K mg} {H : Hp} {Q : VK} {E : XK} {n m : Nat} (h1 : 1 ≤ n) (h2 : n ≤ 10 ^ 24) (h3 : Few n m) (h4 : m ≤ 50000) (k : ∀ D ds H', Fr H D → Same H H' → H' D = some (.lst (nI ds)) → AllDivs n ds → Q (.ref D) H') : sp_divisor_list T [.int (n : Int)] H Q E := ⟨n, m, rfl, h1, h2, h3, h4, k⟩
local macro_rules | `(tactic| show "own") => `(tactic| (((with_reducible refine' use_divisor_list ?s1 ?s2 ?s3 ?s4 ?nxt); (case s1 => (omega)); (case s2 => (omega)); (case s3 => (assumption)); (case s4 => (omega)); (case' nxt => skip)); intro _ _ _ _ _ _ _))

theorem ok_divisor_list (T : Txt K mg) : FnOk P w K mg base CX0 2 T.f_divisor_list T.fd_divisor_list ["number"] (sp_divisor_list T) := by
  have G_prime_list : FnOk P w K mg base CX0 1 T.f_prime_list T.fd_prime_list ["number"] (sp_prime_list T) := ok_prime_list T
  refine T.F_divisor_list.ok sc_divisor_list (fun vs H Q E h => ?_) (fun cdv A outer s H vs Q E hr h => ?_)
  · exact len_divisor_list T h
  · refine ⟨_, (pss_cons (ps_set (i := 1) sc_divisor_list.nd rfl (Or.inl rfl) (pe_lst (pa_cons pe_int pa_nil)))
    (pss_cons (ps_for PassesOwn.never rfl (pi_listK (K := K) rfl (pe_call G_prime_list (hr.mono (by decide)) rfl T.g_prime_list T.F_prime_list.kp T.b_prime_list .nil pass0 (pa_cons (pv 0) pa_nil))) (pg_name (i := 2) sc_divisor_list.nd rfl (Or.inl rfl)) (pss_cons (ps_set (i := 3) sc_divisor_list.nd rfl (Or.inl rfl) (pv 1))
    (pss_cons (ps_set (i := 4) sc_divisor_list.nd rfl (Or.inr rfl) (pv 2))
    (pss_one (ps_while PassesOwn.never (pt_cmpR (op_eqK (K := K) rfl hr.units) (pe_op op_modU (pv 0) (pv 4)) pe_int (nomark _)) (pss_cons (ps_set (i := 1) sc_divisor_list.nd rfl (Or.inl rfl) (pe_op (op_addK (K := K) rfl) (pv 1) (pe_lc (own := [("divisor", 5)]) rfl sc_divisor_list.nd (pi_listK (K := K) rfl (pv 3)) (blkOk_by (own := [("divisor", 5)]) (N := N_divisor_list) (sc := defScope s_divisor_list) (by first | decide +kernel | rfl)) (fun _ _ _ _ _ => (pg_name (i := 5) sc_divisor_list.nd rfl (by first | exact Or.inl rfl | exact Or.inr rfl))) (fun _ _ _ _ _ => pts_nil) (fun _ _ _ _ _ => (pe_op op_mulU (pv 5) (pv 4))))))
    (pss_one (ps_set (i := 4) sc_divisor_list.nd rfl (Or.inr rfl) (pe_op op_mulU (pv 4) (pv 2))))))))))
    (pss_one (ps_ret (pe_callB (c_sortedK (K := K) rfl) (by rfl) T.z_sorted (by decide +kernel) (pa_cons (pv 1) pa_nil)))))), ?_⟩
    clear hr
    obtain ⟨n, m, rfl, h1, h2, h3, h4, k⟩ := h
    refine st_eq (σ' := [some _, none, none, none, none, none]) rfl ?_
    have sn : Sz 90 (n : Int) := Sz.mk (by omega)
    have n0 : 0 < n := h1
    show "go"
    rename_i L0 HL L1 L2 L3 P ps HP p1 p2 p3 hps
    have few : ∀ {done ds : List Nat}, Divs n done ds → ds.length ≤ m := fun h => h3 _ h.nd fun d z => ((h.iff d).mp z).1
    refine f_list (fun i σ' H' => Same HP H' ∧ ∃ D ds v2 v3 v4, σ' = [some (.int (n : Int)), some (.ref D), v2, v3, v4, none] ∧ H' D = some (.lst (nI ds)) ∧ Divs n (ps.take i) ds) (SqL.of p3) ⟨Same.refl _, L0, [1], _, _, _, rfl, by show "hp", Divs.start h1⟩ (fun i σ' H' _ q => SqL.of (q.1 _ _ p3)) ?_ ?_
    · rintro i e σ' H' hi2 ⟨s6, D, ds, v2, v3, v4, rfl, hD, hd⟩
      obtain ⟨p, rfl, hp⟩ := nI_at hi2
      obtain ⟨pp, pn⟩ := (hps.iff p).mp (List.mem_of_getElem? hp)
      have np : p ∉ ps.take i := up_notake hps.up hp
      have ptk : ps.take (i + 1) = ps.take i ++ [p] := take_at hp
      have pl : p ≤ n := Nat.le_of_dvd h1 pn
      have p2 := pp.1
      have sp : Sz 90 (p : Int) := Sz.mk (by omega)
      have dl := few hd
      have nl : (nI ds).length ≤ 50000 := by rw [List.length_map]; omega
      show "go"
      refine f_while (fun m2 σ' H'' => Same H' H'' ∧ ∃ D2 ds2 k w, σ' = [some (.int (n : Int)), some (.ref D2), some (.int (p : Int)), some (.ref D), some (.int ((w : Nat) : Int)), none] ∧ H'' D2 = some (.lst (nI ds2)) ∧ Inn n (ps.take i) p k ds2 ∧ w = p ^ (k + 1) ∧ w ≤ n * p ∧ m2 = n + 1 - w) ⟨_, Same.refl _, D, ds, 0, p, rfl, hD, hd.inn np pp, (Nat.pow_one p).symm, Nat.le_mul_of_pos_left p n0, rfl⟩ ?_
      rintro m2 σ' H'' ⟨s7, D2, ds2, kk, w, rfl, hD2, hI, hw, hwn, rfl⟩
      have w1 : w ≤ 10 ^ 48 := Nat.le_trans hwn (Nat.le_trans (Nat.mul_le_mul h2 (Nat.le_trans pl h2)) (by decide))
      have w0 : 1 ≤ w := by rw [hw]; exact Nat.pow_pos (by omega)
      have sw : Sz 170 (w : Int) := Sz.mk (by omega)
      have hDw := s7 _ _ hD
      show "go"
      refine wh_2 (fun e3 => ?_) (fun e3 => ?_)
      · have wn := mod0 e3
        have wl : w ≤ n := Nat.le_of_dvd h1 wn
        have swn : Sz 90 (w : Int) := Sz.mk (by omega)
        have d2l : (nI ds2).length ≤ 50000 := by
          rw [List.length_map]
          have := h3 _ hI.nd fun d z => ((hI.iff d).mp z).1
          omega
        show "go"
        refine lc_fun (mulF w) (SqL.of hDw) (by omega) ?_ ?_
        · intro x hx H1 s8 R kR
          obtain ⟨j, hj⟩ := List.mem_iff_getElem?.mp hx
          obtain ⟨d, rfl, hd2⟩ := nI_at hj
          have dn : d ≤ n := Nat.le_of_dvd h1 ((hd.iff d).mp (List.mem_of_getElem? hd2)).1
          have sd : Sz 90 (d : Int) := Sz.mk (by omega)
          have kR' : ∀ H2, Same H1 H2 → R (some (.int ((d : Int) * w))) H2 := kR
          clear kR
          show "go"
          exact kR' _ (Same.refl _)
        intro X HX fX tX hX
        rw [nI_fm] at hX
        have xl : (nI (ds.map (· * w))).length ≤ 50000 := by rw [List.length_map, List.length_map]; omega
        refine Or.inr (Or.inl (o_cat (by show "hp") hX (by omega) ?_))
        intro Y HY fY tY hY
        rw [← List.map_append] at hY
        have hI2 := hI.step hd np pp (hw ▸ wn)
        rw [← hw] at hI2
        have w2 : w * 2 ≤ w * p := Nat.mul_le_mul_left _ p2
        show "go"
        exact ⟨n + 1 - w * p, by omega, by show "same", Y, ds2 ++ ds.map (· * w), kk + 1, w * p, rfl, hY, hI2, by rw [hw]; exact (Nat.pow_succ ..).symm, Nat.mul_le_mul_right p wl, rfl⟩
      · show "go"
        exact ⟨by show "same", D2, ds2, _, _, _, rfl, hD2, by rw [ptk]; exact hI.done (by rw [← hw]; exact mod0' e3)⟩
    · rintro σ' H' ⟨s6, D, ds, v2, v3, v4, rfl, hD, hd⟩
      rw [nI, List.length_map, List.take_length] at hd
      show "go"
      refine ⟨D, ds.map fun d : Nat => (d : Int), rfl, SqL.of (by rw [List.map_map]; exact hD), fun ns X pm up hX => ?_⟩
      obtain ⟨es, rfl, u1, u2⟩ := srt_nat hd.nd pm up
      rw [List.map_map]
      exact k X es _ ⟨Same.back (by show "same") hX⟩ ((show Same H H' by show "same").trans (same_upd hX)) upd_same ⟨u1, fun d => by rw [u2 d]; exact hd.all hps d⟩
/-! #### _least_number: 0 number, 1 chosen, 2 divisors, 3 least, 4 prime -/
def sp__least_number (T : Txt K mg) : Sp := fun vs H Q _ => ∃ (n m : Nat) (C_ : Addr) (cs : List Nat) (kvs : List (Key × V)), vs = [.int (n : Int), .ref C_] ∧ (1 ≤ n) ∧ (n ≤ 10 ^ 24) ∧ (Few n m) ∧ (m ≤ 50000) ∧ (H C_ = some (.dK kvs)) ∧ (Keys kvs cs) ∧ ∀ (r : Nat) H', Same H H' → 1 ≤ r → r ∣ n → (∀ x, Nat.gcd x r ∈ cs ↔ Nat.gcd x n ∈ cs) → (∀ p, Pr p → p ∣ r → ¬ Tells (r / p) fun x => Nat.gcd x n ∈ cs) → Q (.int (r : Int)) H'
theorem len__least_number {vs H Q E} (T : Txt K mg) (h : sp__least_number T vs H Q E) : vs.length = 2 := by obtain ⟨n, m, C_, cs, kvs, rfl, _⟩ := h; rfl
theorem use__least_number {T : Txt K mg} {H : Hp} {Q : VK} {E : XK} {n m : Nat} {C_ : Addr} {cs : List Nat} {kvs : List (Key × V)} (h1 : 1 ≤ n) (h2 : n ≤ 10 ^ 24) (h3 : Few n m) (h4 : m ≤ 50000) (h5 : H C_ = some (.dK kvs)) (h6 : Keys kvs cs) (k : ∀ (r : Nat) H', Same H H' → 1 ≤ r → r ∣ n → (∀ x, Nat.gcd x r ∈ cs ↔ Nat.gcd x n ∈ cs) → (∀ p, Pr p → p ∣ r → ¬ Tells (r / p) fun x => Nat.gcd x n ∈ cs) → Q (.int (r : Int)) H') : sp__least_number T [.int (n : Int), .ref C_] H Q E := ⟨n, m, C_, cs, kvs, rfl, h1, h2, h3, h4, h5, h6, k⟩
local macro_rules | `(tactic| show "own") => `(tactic| (((with_reducible refine' use__least_number ?s1 ?s2 ?s3 ?s4 ?s5 ?s6 ?nxt); (case s1 => (omega)); (case s2 => (omega)); (case s3 => (assumption)); (case s4 => (omega)); (case s5 => (show "hp")); (case s6 => (assumption)); (case' nxt => skip)); intro _ _ _ _ _ _ _))

theorem ok__least_number (T : Txt K mg) : FnOk P w K mg base CX0 3 T.f__least_number T.fd__least_number ["number", "chosen"] (sp__least_number T) := by
  have G__is_needless : FnOk P w K mg base CX0 1 T.f__is_needless T.fd__is_needless ["prime", "number", "divisors", "chosen"] (sp__is_needless T) := ok__is_needless T
  have G_divisor_list : FnOk P w K mg base CX0 2 T.f_divisor_list T.fd_divisor_list ["number"] (sp_divisor_list T) := ok_divisor_list T
  have G_prime_list : FnOk P w K mg base CX0 1 T.f_prime_list T.fd_prime_list ["number"] (sp_prime_list T) := ok_prime_list T
  refine T.F__least_number.ok sc__least_number (fun vs H Q E h => ?_) (fun cdv A outer s H vs Q E hr h => ?_)
  · exact len__least_number T h
  · refine ⟨_, (pss_cons (ps_set (i := 2) sc__least_number.nd rfl (Or.inl rfl) (pe_call G_divisor_list (hr.mono (by decide)) rfl T.g_divisor_list T.F_divisor_list.kp T.b_divisor_list .nil pass0 (pa_cons (pv 0) pa_nil)))
    (pss_cons (ps_set (i := 3) sc__least_number.nd rfl (Or.inl rfl) (pv 0))
    (pss_cons (ps_for PassesOwn.never rfl (pi_listK (K := K) rfl (pe_call G_prime_list (hr.mono (by decide)) rfl T.g_prime_list T.F_prime_list.kp T.b_prime_list .nil pass0 (pa_cons (pv 0) pa_nil))) (pg_name (i := 4) sc__least_number.nd rfl (Or.inl rfl)) (pss_one (ps_while PassesOwn.never (PW.pt (pw_and (pt_cmpR (op_eqK (K := K) rfl hr.units) (pe_op op_modU (pv 3) (pv 4)) pe_int (nomark _)) (pw_and1 (ptTK (K := K) rfl (pe_call G__is_needless (hr.mono (by decide)) rfl T.g__is_needless T.F__is_needless.kp T.b__is_needless .nil pass0 (pa_cons (pv 4) (pa_cons (pv 3) (pa_cons (pv 2) (pa_cons (pv 1) pa_nil))))) (by intro _; rfl))))) (pss_one (ps_set (i := 3) sc__least_number.nd rfl (Or.inl rfl) (pe_op op_fdivU (pv 3) (pv 4)))))))
    (pss_one (ps_ret (pv 3)))))), ?_⟩
    clear hr
    obtain ⟨n, m, C_, cs, kvs, rfl, h1, h2, h3, h4, h5, h6, k⟩ := h
    refine st_eq (σ' := [some _, some _, none, none, none]) rfl ?_
    have sn : Sz 90 (n : Int) := Sz.mk (by omega)
    show "go"
    rename_i D ds HD d1 d2 d3 hds P ps HP p1 p2 p3 hps
    have fD := p2 _ _ d3
    have fC := p2 _ _ (d2 _ _ h5)
    have dl : ds.length ≤ 50000 := by
      have := h3 ds (hds.up.imp fun {a b} q => Nat.ne_of_lt q) fun d z => (hds.iff d).mp z
      omega
    have db : ∀ d ∈ ds, 1 ≤ d ∧ d ≤ 10 ^ 24 := fun d hd => by
      have := Nat.le_of_dvd h1 ((hds.iff d).mp hd)
      have := Nat.pos_of_dvd_of_pos ((hds.iff d).mp hd) h1
      omega
    refine f_list (fun i σ' H' => Same HP H' ∧ ∃ (r : Nat) (v4 : Option V), σ' = [some (.int (n : Int)), some (.ref C_), some (.ref D), some (.int (r : Int)), v4] ∧ 1 ≤ r ∧ r ∣ n ∧ (∀ x, Nat.gcd x r ∈ cs ↔ Nat.gcd x n ∈ cs) ∧ Ndd n cs (ps.take i) r) (SqL.of p3) ⟨Same.refl _, n, _, rfl, h1, Nat.dvd_refl n, fun x => Iff.rfl, fun q m => absurd m (by simp)⟩ (fun i σ' H' _ q => SqL.of (q.1 _ _ p3)) ?_ ?_
    · rintro i e σ' H' hi2 ⟨s6, r, v4, rfl, r1, rn, hr, hN⟩
      obtain ⟨p, rfl, hp⟩ := nI_at hi2
      have ptk : ps.take (i + 1) = ps.take i ++ [p] := take_at hp
      obtain ⟨pp, pn⟩ := (hps.iff p).mp (List.mem_of_getElem? hp)
      have pl : p ≤ n := Nat.le_of_dvd h1 pn
      have p2 := pp.1
      have sp : Sz 90 (p : Int) := Sz.mk (by omega)
      show "go"
      refine f_while (fun m2 σ' H'' => Same H' H'' ∧ ∃ r : Nat, σ' = [some (.int (n : Int)), some (.ref C_), some (.ref D), some (.int (r : Int)), some (.int (p : Int))] ∧ 1 ≤ r ∧ r ∣ n ∧ (∀ x, Nat.gcd x r ∈ cs ↔ Nat.gcd x n ∈ cs) ∧ Ndd n cs (ps.take i) r ∧ m2 = r) ⟨_, Same.refl _, r, rfl, r1, rn, hr, hN, rfl⟩ ?_
      rintro m2 σ' H'' ⟨s7, w, rfl, w1, wn, hw, hW, hm2⟩
      have wl : w ≤ n := Nat.le_of_dvd h1 wn
      have sw : Sz 90 (w : Int) := Sz.mk (by omega)
      have gD := s7 _ _ (s6 _ _ fD)
      have gC := s7 _ _ (s6 _ _ fC)
      show "go"
      by_cases e1 : (w : Int) % (p : Int) = 0
      · refine and_y e1 ?_
        have pw := mod0 e1
        show "go"
        rename_i b H1 s8 hb
        cases b with
        | false =>
          refine wh_F ?_
          have hnn : ¬ Needless p w ds cs := fun q => Bool.false_ne_true (hb.mpr q)
          exact ⟨by show "same", w, _, rfl, w1, wn, hw, by rw [ptk]; exact hW.snoc fun _ t => needed pp w1 pw hnn (t.congr fun x => (hw x).symm)⟩
        | true =>
          refine wh_T ?_
          have pwl := Nat.le_of_dvd w1 pw
          have q1 : 1 ≤ w / p := Nat.div_pos pwl (by omega)
          have q2 : w / p < w := Nat.div_lt_self w1 p2
          show "go"
          exact ⟨w / p, by omega, by show "same", w / p, rfl, q1, Nat.dvd_trans (Nat.div_dvd_of_dvd pw) wn, fun x => (needless_ok pp w1 pw (fun d z => (hds.iff d).mpr (Nat.dvd_trans z wn)) (hb.mp rfl)).trans (hw x), hW.div w1 pw, rfl⟩
      · refine and_n e1 ?_
        refine wh_F ?_
        exact ⟨by show "same", w, _, rfl, w1, wn, hw, by rw [ptk]; exact hW.snoc fun d => absurd d (mod0' e1)⟩
    · rintro σ' H' ⟨s6, r, v4, rfl, r1, rn, hr, hN⟩
      rw [nI, List.length_map, List.take_length] at hN
      show "go"
      exact k r _ (by show "same") r1 rn hr fun p pp pr => hN p ((hps.iff p).mpr ⟨pp, Nat.dvd_trans pr rn⟩) pr
/-! #### Calendar.__init__: 0 self, 1 number, 2 divisors, 3 extra, 4 given, 5 least, 6 divisor, 7 size -/
def sp_Calendar___init__ (T : Txt K mg) : Sp := fun vs H Q _ => ∃ (r dx D X : Addr) (n m : Nat) (ds xs : List Nat), vs = [.ref r, .int (n : Int), .ref D, .ref X] ∧ (H r = some (.ins T.C_Calendar dx [])) ∧ (1 ≤ n) ∧ (n ≤ 10 ^ 24) ∧ (Few n m) ∧ (m ≤ 4000) ∧ (H D = some (.lst (nI ds))) ∧ (H X = some (.lst (nI xs))) ∧ (∀ d ∈ ds, d ∣ n) ∧ (∀ x ∈ xs, 1 ≤ x ∧ x ≤ 10 ^ 30) ∧ (ds.length ≤ 4000) ∧ (xs.length ≤ 4000) ∧ ∀ (N : Nat) (cs es : List Nat) (c x : Addr) H', SB r H H' → 1 ≤ N → N ∣ n → H' r = some (.ins T.C_Calendar dx (fsC N c x)) → H' c = some (.dK (dI cs)) → H' x = some (.dK (dI es)) → cs.Pairwise (· < ·) → es.Pairwise (· < ·) → (∀ d, d ∈ cs ↔ d ∈ ds ∧ d ∣ N) → (∀ z, z ∈ es ↔ z ∈ xs) → (∀ z, Nat.gcd z N ∈ ds ↔ Nat.gcd z n ∈ ds) → (Least N fun z => Nat.gcd z n ∈ ds) → c ≠ x → Q .non H'
theorem len_Calendar___init__ {vs H Q E} (T : Txt K mg) (h : sp_Calendar___init__ T vs H Q E) : vs.length = 4 := by obtain ⟨r, dx, D, X, n, m, ds, xs, rfl, _⟩ := h; rfl
theorem use_Calendar___init__ {T : Txt K mg} {H : Hp} {Q : VK} {E : XK} {r dx D X : Addr} {n m : Nat} {ds xs : List Nat} (h0 : H r = some (.ins T.C_Calendar dx [])) (h1 : 1 ≤ n) (h2 : n ≤ 10 ^ 24) (h3 : Few n m) (h4 : m ≤ 4000) (g1 : H D = some (.lst (nI ds))) (g2 : H X = some (.lst (nI xs))) (h5 : ∀ d ∈ ds, d ∣ n) (h6 : ∀ x ∈ xs, 1 ≤ x ∧ x ≤ 10 ^ 30) (h7 : ds.length ≤ 4000) (h8 : xs.length ≤ 4000) (k : ∀ (N : Nat) (cs es : List Nat) (c x : Addr) H', SB r H H' → 1 ≤ N → N ∣ n → H' r = some (.ins T.C_Calendar dx (fsC N c x)) → H' c = some (.dK (dI cs)) → H' x = some (.dK (dI es)) → cs.Pairwise (· < ·) → es.Pairwise (· < ·) → (∀ d, d ∈ cs ↔ d ∈ ds ∧ d ∣ N) → (∀ z, z ∈ es ↔ z ∈ xs) → (∀ z, Nat.gcd z N ∈ ds ↔ Nat.gcd z n ∈ ds) → (Least N fun z => Nat.gcd z n ∈ ds) → c ≠ x → Q .non H') : sp_Calendar___init__ T [.ref r, .int (n : Int), .ref D, .ref X] H Q E := ⟨r, dx, D, X, n, m, ds, xs, rfl, h0, h1, h2, h3, h4, g1, g2, h5, h6, h7, h8, k⟩
local macro_rules | `(tactic| show "own") => `(tactic| (((with_reducible refine' use_Calendar___init__ ?s1 ?s2 ?s3 ?s4 ?s5 ?s6 ?s7 ?s8 ?s9 ?s10 ?s11 ?nxt); (case s1 => (show "hp")); (case s2 => (omega)); (case s3 => (omega)); (case s4 => (assumption)); (case s5 => (omega)); (case s6 => (show "hp")); (case s7 => (show "hp")); (case s8 => (assumption)); (case s9 => (assumption)); (case s10 => (omega)); (case s11 => (omega)); (case' nxt => skip)); intro _ _ _ _ _ _ _ _ _ _ _ _ _ _ _ _ _ _))
theorem use_mkCalendar {T : Txt K mg} {H : Hp} {Q : VK} {E : XK} {D X : Addr} {n m : Nat} {ds xs : List Nat} (h1 : 1 ≤ n) (h2 : n ≤ 10 ^ 24) (h3 : Few n m) (h4 : m ≤ 4000) (g1 : H D = some (.lst (nI ds))) (g2 : H X = some (.lst (nI xs))) (h5 : ∀ d ∈ ds, d ∣ n) (h6 : ∀ x ∈ xs, 1 ≤ x ∧ x ≤ 10 ^ 30) (h7 : ds.length ≤ 4000) (h8 : xs.length ≤ 4000)
  (k : ∀ x H' N cs es, Fr H x → Same H H' → Cal T.C_Calendar H' x N cs es → CalOk n ds xs N cs es → Q (.ref x) H') : MakeR T.C_Calendar (sp_Calendar___init__ T) E [.int (n : Int), .ref D, .ref X] H Q := fun x dx p1 p2 _ =>
  ⟨x, dx, D, X, n, m, ds, xs, rfl, upd_same, h1, h2, h3, h4, by rw [upd_ne (ne_of_none g1 p1), upd_ne (ne_of_none g1 p2)]; exact g1, by rw [upd_ne (ne_of_none g2 p1), upd_ne (ne_of_none g2 p2)]; exact g2, h5, h6, h7, h8, fun N cs es c e H' s a1 a2 a3 a4 a5 a6 a7 a8 a9 a10 a11 a12 =>
    have hk : CalOk n ds xs N cs es := ⟨a1, a2, a6, a7, a8, a9, a10, a11⟩
    ⟨rfl, k x H' N cs es ⟨p1⟩ (fun b o q => s b o (ne_of_none q p1) (by rw [upd_ne (ne_of_none q p1), upd_ne (ne_of_none q p2)]; exact q)) ⟨⟨dx, c, e, a3, a4, a5⟩, hk.canon h1 h2 h6, fun dx' c' e' q => by rw [a3] at q; cases q; exact a12⟩ hk⟩⟩
theorem use_mkCalIn {T : Txt K mg} {H : Hp} {Q : VK} {E : XK} {D X : Addr} {m lim xl n : Nat} {ds cs xs : List Nat} (c : CalIn m lim xl n ds cs xs) (hl : lim ≤ 10 ^ 24) (hm : m ≤ 4000) (hx : xl ≤ 4000) (g1 : H D = some (.lst (nI cs))) (g2 : H X = some (.lst (nI xs)))
  (k : ∀ x H' N cc es, Fr H x → Same H H' → Cal T.C_Calendar H' x N cc es → CalOk n cs xs N cc es → Q (.ref x) H') : MakeR T.C_Calendar (sp_Calendar___init__ T) E [.int (n : Int), .ref D, .ref X] H Q :=
  use_mkCalendar c.n1 (Nat.le_trans c.nm hl) c.few hm g1 g2 c.cd (fun x m => ⟨(c.xp x m).1, Nat.le_trans (c.xp x m).2 (by decide)⟩) (Nat.le_trans c.cl hm) (Nat.le_trans c.xn hx) k
local macro_rules | `(tactic| show "own") => `(tactic| (((with_reducible (with_reducible refine' use_mkCalendar ?s1 ?s2 ?s3 ?s4 ?s5 ?s6 ?s7 ?s8 ?s9 ?s10 ?nxt)); (case s1 => (omega)); (case s2 => (omega)); (case s3 => (assumption)); (case s4 => (omega)); (case s5 => (show "hp")); (case s6 => (show "hp")); (case s7 => (assumption)); (case s8 => (assumption)); (case s9 => (omega)); (case s10 => (omega)); (case' nxt => skip)); intro _ _ _ _ _ _ _ _ _))
theorem mkS {T : Txt K mg} {H : Hp} {Q : VK} {E : XK} {D X : Addr} {n m : Nat} {ds xs : List Nat} (h1 : 1 ≤ n) (h2 : n ≤ 10 ^ 24) (h3 : Few n m) (h4 : m ≤ 4000) (g1 : H D = some (.lst (nI ds))) (g2 : H X = some (.lst (nI xs))) (h5 : ∀ d ∈ ds, d ∣ n) (h6 : ∀ x ∈ xs, 1 ≤ x ∧ x ≤ 10 ^ 30) (h7 : ds.length ≤ 4000) (h8 : xs.length ≤ 4000)
  (k : ∀ x H', Fr H x → Same H H' → CalS T.C_Calendar H' x (InC n ds xs) m n xs.length → Q (.ref x) H') : MakeR T.C_Calendar (sp_Calendar___init__ T) E [.int (n : Int), .ref D, .ref X] H Q :=
  use_mkCalendar h1 h2 h3 h4 g1 g2 h5 h6 h7 h8 fun x H' N cc ce fx sx cx ok => k x H' fx sx ⟨N, cc, ce, cx, Few.dvd h3 ok.dv, Nat.le_of_dvd h1 ok.dv, up_len ok.eu fun x m => (ok.em x).mp m, ok.inC⟩
theorem few1 : Few 1 1 := fun l nd h => nd.length_le_of_subset (l₂ := [1]) fun d m => by
  rw [List.mem_singleton]
  exact Nat.dvd_one.mp (h d m)
theorem mkAll {T : Txt K mg} {H : Hp} {Q : VK} {E : XK} {D X : Addr} (g1 : H D = some (.lst [.int 1])) (g2 : H X = some (.lst [])) (k : ∀ x H', Fr H x → Same H H' → CalS T.C_Calendar H' x (fun z => 1 ≤ z) 1 1 0 → Q (.ref x) H') : MakeR T.C_Calendar (sp_Calendar___init__ T) E [.int 1, .ref D, .ref X] H Q :=
  mkS (n := 1) (m := 1) (ds := [1]) (xs := []) (by decide) (by decide) few1 (by decide) g1 g2 (fun d m => by rw [List.mem_singleton.mp m]; exact Nat.dvd_refl 1) (fun x m => absurd m List.not_mem_nil) (by decide) (by decide) fun x H' fx sx cx => k x H' fx sx (cx.congr fun z => by
    unfold InC
    rw [List.mem_singleton]
    exact ⟨fun q => q.1, fun q => ⟨q, fun _ => List.not_mem_nil, fun _ => by rw [show ((1 : Nat) : Int) = 1 from rfl, Int.gcd_one]⟩⟩)
theorem mkNone {T : Txt K mg} {H : Hp} {Q : VK} {E : XK} {D X : Addr} (g1 : H D = some (.lst [])) (g2 : H X = some (.lst [])) (k : ∀ x H', Fr H x → Same H H' → CalS T.C_Calendar H' x (fun _ => False) 1 1 0 → Q (.ref x) H') : MakeR T.C_Calendar (sp_Calendar___init__ T) E [.int 1, .ref D, .ref X] H Q :=
  mkS (n := 1) (m := 1) (ds := []) (xs := []) (by decide) (by decide) few1 (by decide) g1 g2 (fun d m => absurd m List.not_mem_nil) (fun x m => absurd m List.not_mem_nil) (by decide) (by decide) fun x H' fx sx cx => k x H' fx sx (cx.congr fun z => by
    unfold InC
    exact ⟨fun q => List.not_mem_nil (q.2.mpr List.not_mem_nil), fun q => q.elim⟩)
local macro_rules | `(tactic| show "step2") => `(tactic| first
  | (((with_reducible refine' mkAll ?s1 ?s2 ?nxt); (case s1 => (show "hp")); (case s2 => (show "hp")); (case' nxt => skip)); intro _ _ _ _ _)
  | (((with_reducible refine' mkNone ?s1 ?s2 ?nxt); (case s1 => (show "hp")); (case s2 => (show "hp")); (case' nxt => skip)); intro _ _ _ _ _))

theorem ok_Calendar___init__ (T : Txt K mg) : FnOk P w K mg base CX0 4 T.f_Calendar___init__ T.fd_Calendar___init__ ["self", "number", "divisors", "extra"] (sp_Calendar___init__ T) := by
  have G__check : FnOk P w K mg base CX0 1 T.f__check T.fd__check ["number", "divisors", "extra"] (sp__check T) := ok__check T
  have G__least_number : FnOk P w K mg base CX0 3 T.f__least_number T.fd__least_number ["number", "chosen"] (sp__least_number T) := ok__least_number T
  refine T.F_Calendar___init__.ok sc_Calendar___init__ (fun vs H Q E h => ?_) (fun cdv A outer s H vs Q E hr h => ?_)
  · exact len_Calendar___init__ T h
  · refine ⟨_, (pss_cons (ps_expr (pe_call G__check (hr.mono (by decide)) rfl T.g__check T.F__check.kp T.b__check .nil pass0 (pa_cons (pv 1) (pa_cons (pv 2) (pa_cons (pv 3) pa_nil)))))
    (pss_cons (ps_setDc (i := 4) (own := [("divisor", 6)]) rfl sc_Calendar___init__.nd rfl rfl (sw_dict rfl rfl rfl (by decide +kernel)) (pi_listK (K := K) rfl (pv 2)) (blkOk_by (own := [("divisor", 6)]) (N := N_Calendar___init__) (sc := defScope s_Calendar___init__) (by first | decide +kernel | rfl)) (fun _ _ _ _ _ => (pg_name (i := 6) sc_Calendar___init__.nd rfl (by first | exact Or.inl rfl | exact Or.inr rfl))) (fun _ _ _ _ _ => pts_nil) (fun _ _ _ _ _ => (pv 6)) (fun _ _ _ _ _ => pe_bl))
    (pss_cons (ps_set (i := 5) sc_Calendar___init__.nd rfl (Or.inr rfl) (pe_call G__least_number (hr.mono (by decide)) rfl T.g__least_number T.F__least_number.kp T.b__least_number .nil pass0 (pa_cons (pv 1) (pa_cons (pv 4) pa_nil))))
    (pss_cons (ps_fldK (K := K) rfl (pv 0) (pv 5) rfl)
    (pss_cons (ps_fldK (K := K) rfl (pv 0) (pe_dc (own := [("divisor", 6)]) rfl sc_Calendar___init__.nd (pi_listK (K := K) rfl (pe_callB (call_sortedDG (K := K) rfl rfl) (by rfl) T.z_sorted (by decide +kernel) (pa_cons (pv 4) pa_nil))) (blkOk_by (own := [("divisor", 6)]) (N := N_Calendar___init__) (sc := defScope s_Calendar___init__) (by first | decide +kernel | rfl)) (fun _ _ _ _ _ => (pg_name (i := 6) sc_Calendar___init__.nd rfl (by first | exact Or.inl rfl | exact Or.inr rfl))) (fun _ _ _ _ _ => (pts_one (pt_cmpR (op_eqK (K := K) rfl hr.units) (pe_op op_modU (pv 5) (pv 6)) pe_int (nomark _)))) (fun _ _ _ _ _ => (pv 6)) (fun _ _ _ _ _ => pe_bl)) rfl)
    (pss_one (ps_fldK (K := K) rfl (pv 0) (pe_dc (own := [("size", 7)]) rfl sc_Calendar___init__.nd (pi_listK (K := K) rfl (pe_sortSetG (K := K) rfl (by rfl) T.z_sorted (by rfl) T.z_set (pv 3))) (blkOk_by (own := [("size", 7)]) (N := N_Calendar___init__) (sc := defScope s_Calendar___init__) (by first | decide +kernel | rfl)) (fun _ _ _ _ _ => (pg_name (i := 7) sc_Calendar___init__.nd rfl (by first | exact Or.inl rfl | exact Or.inr rfl))) (fun _ _ _ _ _ => pts_nil) (fun _ _ _ _ _ => (pv 7)) (fun _ _ _ _ _ => pe_bl)) rfl))))))), ?_⟩
    clear hr
    obtain ⟨r, dx, D, X, n, m, ds, xs, rfl, h0, h1, h2, h3, h4, g1, g2, h5, h6, h7, h8, k⟩ := h
    refine st_eq (σ' := [some _, some _, some _, some _, none, none, none, none]) rfl ?_
    have hc := T.cl_Calendar
    have na1 := T.na_Calendar_number
    have na2 := T.na_Calendar_chosen
    have na3 := T.na_Calendar_extra
    have sn : Sz 90 (n : Int) := Sz.mk (by omega)
    show "go"
    refine dcl_fun (keyF fun _ => True) (SqL.of g1) (by rw [List.length_map]; omega) ?_ ?_
    · intro v hv H1 s8 R kR
      obtain ⟨j, hj⟩ := List.mem_iff_getElem?.mp hv
      obtain ⟨d, rfl, hd2⟩ := nI_at hj
      have kR' : ∀ H2, Same H1 H2 → R (some (.int (d : Int), .bl true)) H2 := fun H2 s => by
        have := kR H2 s
        rw [keyF_yes trivial] at this
        exact this
      clear kR
      refine dct_6 ?_
      show "go"
      exact kR' _ (Same.refl _)
    intro G HG fG tG hG
    rw [keyF_all, madeD_I] at hG
    have kG := dI_keys (ddn ds)
    have ng := ddn_nd ds
    have mg := ddn_mem ds
    have lg : (ddn ds).length ≤ 4000 := Nat.le_trans (h3 _ ng fun d m => h5 d ((mg d).mp m)) h4
    generalize ddn ds = gs at *
    show "go"
    rename_i N HN tN N1 Nn hN hL H5 t5 h5r
    have lN := Nat.le_of_dvd h1 Nn
    have sN : Sz 90 (N : Int) := Sz.mk (by omega)
    have kG5 : H5 G = some (.dK (dI gs)) := by show "hp"
    refine ⟨G, dI gs, gs.map fun d : Nat => (d : Int), rfl, .inl kG5, by unfold dI; rw [List.map_map, List.map_map]; rfl, by rw [List.length_map]; omega, fun ys p pm up hp => ?_⟩
    obtain ⟨cs, rfl, cu, cm⟩ := srt_nat ng pm up
    have t6 : Same H5 (upd H5 p (.lst ((cs.map fun d : Nat => (d : Int)).map V.int))) := same_upd hp
    have h6p : (upd H5 p (.lst ((cs.map fun d : Nat => (d : Int)).map V.int))) p = some (.lst (nI cs)) := by rw [upd_same, List.map_map]; rfl
    generalize upd H5 p (.lst ((cs.map fun d : Nat => (d : Int)).map V.int)) = H6 at *
    have cl : cs.length ≤ 4000 := by
      have := pm.length_eq
      rw [List.length_map, List.length_map] at this
      omega
    refine dcl_fun (keyF fun d => d ∣ N) (SqL.of h6p) (by rw [List.length_map]; omega) ?_ ?_
    · intro v hv H7 s7 R kR
      obtain ⟨j, hj⟩ := List.mem_iff_getElem?.mp hv
      obtain ⟨d, rfl, hd2⟩ := nI_at hj
      have dd := h5 d ((mg d).mp ((cm d).mp (List.mem_of_getElem? hd2)))
      have dl := Nat.le_of_dvd h1 dd
      have d1 : 1 ≤ d := Nat.pos_of_dvd_of_pos dd h1
      have sd : Sz 90 (d : Int) := Sz.mk (by omega)
      have kR' : ∀ H2, Same H7 H2 → R ((keyF (fun d => d ∣ N) (.int (d : Int))).map fun q => (kV q.1, q.2)) H2 := kR
      clear kR
      refine dct_6 ?_
      show "go"
      by_cases e : (N : Int) % (d : Int) = 0
      · rw [keyF_yes (p := fun d => d ∣ N) (mod0 e)] at kR'
        rw [decide_eq_true e]
        refine dce_T ?_
        show "go"
        exact kR' _ (Same.refl _)
      · rw [keyF_no (p := fun d => d ∣ N) (mod0' e)] at kR'
        rw [decide_eq_false e]
        refine dce_F ?_
        exact kR' _ (Same.refl _)
    intro C HC fC tC hC
    rw [keyF_fm, madeD_I] at hC
    obtain ⟨cf, ecf⟩ : ∃ cf, cf = cs.filter fun d => @decide (d ∣ N) (Classical.propDecidable _) := ⟨_, rfl⟩
    rw [← ecf] at hC
    have cfu : cf.Pairwise (· < ·) := ecf ▸ cu.filter _
    have cfm : ∀ d, d ∈ cf ↔ d ∈ ds ∧ d ∣ N := fun d => by
      rw [ecf, List.mem_filter, cm d, mg d]
      exact and_congr_right' (@decide_eq_true_iff _ (Classical.propDecidable _))
    rw [ddn_same (cfu.imp fun {a b} q => Nat.ne_of_lt q)] at hC
    clear ecf
    have Xr : X ≠ r := by
      intro e
      subst e
      rw [h0] at g2
      cases g2
    have Cr : C ≠ r := by
      intro e
      subst e
      rw [tC _ _ (t6 _ _ h5r)] at hC
      cases hC
    have gXC : HC X = some (.lst (nI xs)) := tC _ _ (t6 _ _ (t5 _ _ Xr (tN _ _ (tG _ _ g2))))
    have rC : HC r = some (.ins T.C_Calendar dx (putF "_number" (.int (N : Int)) [])) := tC _ _ (t6 _ _ h5r)
    have tS : Hld (SB r H HC) := ⟨((SB.of (tG.trans tN)).trans t5).trans (SB.of (t6.trans tC))⟩
    clear tC t6 t5 tN tG fG hG kG5 hp h6p h5r g1 g2 pm up fC
    show "go"
    rename_i H8 t8 h8r
    have gX8 := t8 _ _ Xr gXC
    have gC8 := t8 _ _ Cr hC
    have tS8 : Hld (SB r H H8) := ⟨tS.out.trans t8⟩
    clear t8 tS gXC hC rC
    refine ⟨X, xs.map fun d : Nat => (d : Int), rfl, SqL.of (by rw [List.map_map]; exact gX8), by rw [List.length_map]; exact h8, fun out p2 up2 mem2 hp2 => ?_⟩
    obtain ⟨es, rfl, eu, em⟩ := asc_nat up2 mem2
    have t9 : Same H8 (upd H8 p2 (.lst ((es.map fun d : Nat => (d : Int)).map V.int))) := same_upd hp2
    have h9 : (upd H8 p2 (.lst ((es.map fun d : Nat => (d : Int)).map V.int))) p2 = some (.lst (nI es)) := by rw [upd_same, List.map_map]; rfl
    generalize upd H8 p2 (.lst ((es.map fun d : Nat => (d : Int)).map V.int)) = H9 at *
    have el : es.length ≤ xs.length := List.Nodup.length_le_of_subset (eu.imp fun {a b} q => Nat.ne_of_lt q) fun d m => (em d).mp m
    refine dcl_fun (keyF fun _ => True) (SqL.of h9) (by rw [List.length_map]; omega) ?_ ?_
    · intro v hv H1 s8 R kR
      obtain ⟨j, hj⟩ := List.mem_iff_getElem?.mp hv
      obtain ⟨d, rfl, hd2⟩ := nI_at hj
      have kR' : ∀ H2, Same H1 H2 → R (some (.int (d : Int), .bl true)) H2 := fun H2 s => by
        have := kR H2 s
        rw [keyF_yes trivial] at this
        exact this
      clear kR
      refine dct_7 ?_
      show "go"
      exact kR' _ (Same.refl _)
    intro Y HY fY tY hY
    rw [keyF_all, madeD_I, ddn_same (eu.imp fun {a b} q => Nat.ne_of_lt q)] at hY
    have Yr : Y ≠ r := by
      intro e
      subst e
      rw [tY _ _ (t9 _ _ h8r)] at hY
      cases hY
    have rY := tY _ _ (t9 _ _ h8r)
    have cY := tY _ _ (t9 _ _ gC8)
    have CY : C ≠ Y := ne_new' fY (t9 _ _ gC8)
    have tSY : Hld (SB r H HY) := ⟨tS8.out.trans (SB.of (t9.trans tY))⟩
    clear t9 tY tS8 h9 hp2 up2 mem2 h8r gC8 gX8 fY
    show "go"
    rename_i HZ tZ hZ
    exact k N cf es C Y HZ (tSY.out.trans tZ) N1 Nn (by rw [← fsC_mk]; exact hZ) (tZ _ _ Cr cY) (tZ _ _ Yr hY) cfu eu cfm em (fun z => by rw [← mg, ← mg]; exact hN z) ⟨(Tells.self N fun g => g ∈ ds).congr (fun z => by rw [← mg, ← mg]; exact hN z), fun p pp pd t => hL p pp pd (t.congr fun z => (mg _).symm)⟩ CY
/-! #### Calendar.extra: 0 self -/
def sp_Calendar_extra (T : Txt K mg) : Sp := fun vs H Q _ => ∃ (r : Addr) (N : Nat) (cs es : List Nat), vs = [.ref r] ∧ (Cal T.C_Calendar H r N cs es) ∧ ∀ D H', Fr H D → Same H H' → H' D = some (.lst (nI es)) → Q (.ref D) H'
theorem len_Calendar_extra {vs H Q E} (T : Txt K mg) (h : sp_Calendar_extra T vs H Q E) : vs.length = 1 := by obtain ⟨r, N, cs, es, rfl, _⟩ := h; rfl
theorem use_Calendar_extra {T : Txt K mg} {H : Hp} {Q : VK} {E : XK} {r : Addr} {N : Nat} {cs es : List Nat} (h1 : Cal T.C_Calendar H r N cs es) (k : ∀ D H', Fr H D → Same H H' → H' D = some (.lst (nI es)) → Q (.ref D) H') : sp_Calendar_extra T [.ref r] H Q E := ⟨r, N, cs, es, rfl, h1, k⟩
local macro_rules | `(tactic| show "own") => `(tactic| (((with_reducible refine' use_Calendar_extra ?s1 ?nxt); (case s1 => (show "cal")); (case' nxt => skip)); intro _ _ _ _ _))

theorem ok_Calendar_extra (T : Txt K mg) : FnOk P w K mg base CX0 1 T.f_Calendar_extra T.fd_Calendar_extra ["self"] (sp_Calendar_extra T) := by
  refine T.F_Calendar_extra.ok sc_Calendar_extra (fun vs H Q E h => ?_) (fun cdv A outer s H vs Q E hr h => ?_)
  · exact len_Calendar_extra T h
  · refine ⟨_, (pss_one (ps_ret (pe_callTy (call_listD rfl) (by rfl) T.z_list (by decide +kernel) (pa_cons (pe_fldK (K := K) rfl (pv 0) rfl) pa_nil)))), ?_⟩
    clear hr
    obtain ⟨r, N, cs, es, rfl, h1, k⟩ := h
    refine st_eq (σ' := [some _]) rfl ?_
    obtain ⟨⟨dx, c, x, h1, h2, h3⟩, hok, hne⟩ := h1
    have n2 := hok.nm
    have hc := T.cl_Calendar
    have na1 := T.na_Calendar_number
    have na2 := T.na_Calendar_chosen
    have na3 := T.na_Calendar_extra
    show "go"
    refine ⟨_, _, rfl, .inl h3, fun p hp => ?_⟩
    rw [dI_list]
    exact k p _ ⟨hp⟩ (same_upd hp) upd_same
/-! #### Calendar.__and__: 0 self, 1 other, 2 number, 3 divisors, 4 extra, 5 size -/
def sp_Calendar___and__ (T : Txt K mg) : Sp := fun vs H Q _ => ∃ (a b : Addr) (N1 N2 m1 m2 : Nat) (c1 e1 c2 e2 : List Nat), vs = [.ref a, .ref b] ∧ (Cal T.C_Calendar H a N1 c1 e1) ∧ (Cal T.C_Calendar H b N2 c2 e2) ∧ (Few N1 m1) ∧ (Few N2 m2) ∧ (m1 * m2 ≤ 4000) ∧ (N1 * N2 ≤ 10 ^ 24) ∧ (e1.length ≤ 1500) ∧ (e2.length ≤ 1500) ∧ ∀ x H' N cs es, Fr H x → Same H H' → Cal T.C_Calendar H' x N cs es → AndOk N1 c1 e1 N2 c2 e2 N cs es → Q (.ref x) H'
theorem len_Calendar___and__ {vs H Q E} (T : Txt K mg) (h : sp_Calendar___and__ T vs H Q E) : vs.length = 2 := by obtain ⟨a, b, N1, N2, m1, m2, c1, e1, c2, e2, rfl, _⟩ := h; rfl
theorem use_Calendar___and__ {T : Txt K mg} {H : Hp} {Q : VK} {E : XK} {a b : Addr} {N1 N2 m1 m2 : Nat} {c1 e1 c2 e2 : List Nat} (h1 : Cal T.C_Calendar H a N1 c1 e1) (h2 : Cal T.C_Calendar H b N2 c2 e2) (f1 : Few N1 m1) (f2 : Few N2 m2) (mm : m1 * m2 ≤ 4000) (nn : N1 * N2 ≤ 10 ^ 24) (l1 : e1.length ≤ 1500) (l2 : e2.length ≤ 1500) (k : ∀ x H' N cs es, Fr H x → Same H H' → Cal T.C_Calendar H' x N cs es → AndOk N1 c1 e1 N2 c2 e2 N cs es → Q (.ref x) H') : sp_Calendar___and__ T [.ref a, .ref b] H Q E := ⟨a, b, N1, N2, m1, m2, c1, e1, c2, e2, rfl, h1, h2, f1, f2, mm, nn, l1, l2, k⟩
local macro_rules | `(tactic| show "own") => `(tactic| (((with_reducible refine' use_Calendar___and__ ?s1 ?s2 ?s3 ?s4 ?s5 ?s6 ?s7 ?s8 ?nxt); (case s1 => (show "cal")); (case s2 => (show "cal")); (case s3 => (assumption)); (case s4 => (assumption)); (case s5 => (show "mm")); (case s6 => (show "nn")); (case s7 => (omega)); (case s8 => (omega)); (case' nxt => skip)); intro _ _ _ _ _ _ _ _ _))
theorem w_andS {T : Txt K mg} {H : Hp} {Q : VK} {E : XK} {a b : Addr} {S1 S2 : Int → Prop} {m1 B1 L1 m2 B2 L2 : Nat} (h1 : CalS T.C_Calendar H a S1 m1 B1 L1) (h2 : CalS T.C_Calendar H b S2 m2 B2 L2) (mm : m1 * m2 ≤ 4000) (nn : B1 * B2 ≤ 10 ^ 24) (l1 : L1 ≤ 1500) (l2 : L2 ≤ 1500) (k : ∀ x H', Fr H x → Same H H' → CalS T.C_Calendar H' x (fun z => S1 z ∧ S2 z) (m1 * m2) (B1 * B2) (L1 + L2) → Q (.ref x) H') : rOwn2 T.C_Calendar (sp_Calendar___and__ T) E (.ref a) (.ref b) H Q := by
  obtain ⟨N1, c1, e1, k1, f1, n1, x1, i1⟩ := h1.ob
  obtain ⟨N2, c2, e2, k2, f2, n2, x2, i2⟩ := h2.ob
  have nm := Nat.le_trans (Nat.mul_le_mul n1 n2) nn
  obtain ⟨⟨dx, ca, ea, a1, _⟩, ok1, _⟩ := (show Cal T.C_Calendar H a N1 c1 e1 from k1)
  obtain ⟨⟨dy, cb, eb, b1, _⟩, ok2, _⟩ := (show Cal T.C_Calendar H b N2 c2 e2 from k2)
  refine w_own2 a1 b1 (use_Calendar___and__ k1 k2 f1 f2 mm nm (by omega) (by omega) fun x H' N cs es fx sx cx ax => k x H' fx sx ⟨N, cs, es, cx, Few.dvd (Few.lcm ok1.n1 ok2.n1 f1 f2) ax.dv, ?_, ?_, fun z => ?_⟩)
  · exact Nat.le_trans (Nat.le_of_dvd (Nat.mul_pos ok1.n1 ok2.n1) (Nat.dvd_trans ax.dv (Nat.lcm_dvd (Nat.dvd_mul_right _ _) (Nat.dvd_mul_left _ _)))) (Nat.mul_le_mul n1 n2)
  · have := ax.el; omega
  · rw [ax.inC, i1, i2]
local macro_rules | `(tactic| show "step2") => `(tactic| (((with_reducible refine' w_andS ?s1 ?s2 ?s3 ?s4 ?s5 ?s6 ?nxt); (case s1 => (show "cals")); (case s2 => (show "cals")); (case s3 => (show "cz")); (case s4 => (show "cz")); (case s5 => (show "cz")); (case s6 => (show "cz")); (case' nxt => skip)); intro _ _ _ _ _))

theorem ok_Calendar___and__ (T : Txt K mg) : FnOk P w K mg base CX0 6 T.f_Calendar___and__ T.fd_Calendar___and__ ["self", "other"] (sp_Calendar___and__ T) := by
  have G_Calendar___contains__ : FnOk P w K mg base CX0 2 T.f_Calendar___contains__ T.fd_Calendar___contains__ ["self", "x"] (sp_Calendar___contains__ T) := ok_Calendar___contains__ T
  have G_Calendar___init__ : FnOk P w K mg base CX0 4 T.f_Calendar___init__ T.fd_Calendar___init__ ["self", "number", "divisors", "extra"] (sp_Calendar___init__ T) := ok_Calendar___init__ T
  have G_Calendar__chooses : FnOk P w K mg base CX0 1 T.f_Calendar__chooses T.fd_Calendar__chooses ["self", "size"] (sp_Calendar__chooses T) := ok_Calendar__chooses T
  have G_Calendar_extra : FnOk P w K mg base CX0 1 T.f_Calendar_extra T.fd_Calendar_extra ["self"] (sp_Calendar_extra T) := ok_Calendar_extra T
  have G_divisor_list : FnOk P w K mg base CX0 2 T.f_divisor_list T.fd_divisor_list ["number"] (sp_divisor_list T) := ok_divisor_list T
  refine T.F_Calendar___and__.ok sc_Calendar___and__ (fun vs H Q E h => ?_) (fun cdv A outer s H vs Q E hr h => ?_)
  · exact len_Calendar___and__ T h
  · refine ⟨_, (pss_cons (ps_set (i := 2) sc_Calendar___and__.nd rfl (Or.inl rfl) (pe_callBfun cr_lcm (by rfl) T.m_lcm (pa_cons (pe_fldK (K := K) rfl (pv 0) rfl) (pa_cons (pe_fldK (K := K) rfl (pv 1) rfl) pa_nil))))
    (pss_cons (ps_setLc (i := 3) (own := [("size", 5)]) rfl sc_Calendar___and__.nd rfl rfl (sw_true rfl rfl rfl (by decide +kernel)) (pi_listK (K := K) rfl (pe_call G_divisor_list (hr.mono (by decide)) rfl T.g_divisor_list T.F_divisor_list.kp T.b_divisor_list .nil pass0 (pa_cons (pv 2) pa_nil))) (blkOk_by (own := [("size", 5)]) (N := N_Calendar___and__) (sc := defScope s_Calendar___and__) (by first | decide +kernel | rfl)) (fun _ _ _ _ _ => (pg_name (i := 5) sc_Calendar___and__.nd rfl (by first | exact Or.inl rfl | exact Or.inr rfl))) (fun _ _ _ _ _ => (pts_one (PW.pt (pw_and (ptTK (K := K) rfl (pe_meth (pv 0) T.cl_Calendar T.me_Calendar__chooses G_Calendar__chooses (hr.mono (by decide)) T.b_Calendar__chooses .nil pass0 (pa_cons (pv 5) pa_nil)) (by intro _; rfl)) (pw_and1 (ptTK (K := K) rfl (pe_meth (pv 1) T.cl_Calendar T.me_Calendar__chooses G_Calendar__chooses (hr.mono (by decide)) T.b_Calendar__chooses .nil pass0 (pa_cons (pv 5) pa_nil)) (by intro _; rfl))))))) (fun _ _ _ _ _ => (pv 5)))
    (pss_cons (ps_setLc (i := 4) (own := [("size", 5)]) rfl sc_Calendar___and__.nd rfl rfl (sw_true rfl rfl rfl (by decide +kernel)) (pi_listK (K := K) rfl (pe_op (op_addK (K := K) rfl) (pe_prop (pv 0) T.cl_Calendar T.pr_Calendar_extra G_Calendar_extra (hr.mono (by decide)) T.b_Calendar_extra .nil pass0 rfl) (pe_prop (pv 1) T.cl_Calendar T.pr_Calendar_extra G_Calendar_extra (hr.mono (by decide)) T.b_Calendar_extra .nil pass0 rfl))) (blkOk_by (own := [("size", 5)]) (N := N_Calendar___and__) (sc := defScope s_Calendar___and__) (by first | decide +kernel | rfl)) (fun _ _ _ _ _ => (pg_name (i := 5) sc_Calendar___and__.nd rfl (by first | exact Or.inl rfl | exact Or.inr rfl))) (fun _ _ _ _ _ => (pts_one (pt_cmpR (op_neK (K := K) rfl hr.units) (pe_and (pe_cmpR (op_or2 (op_inK (K := K) rfl) (op_ownIn (C := T.C_Calendar) T.me_Calendar___contains__.at_ T.me_Calendar___contains__.fn G_Calendar___contains__ (hr.mono (by decide)) T.b_Calendar___contains__ pass0)) (pv 5) (pv 0) (by rfl)) (pe_one (pe_cmpR (op_or2 (op_inK (K := K) rfl) (op_ownIn (C := T.C_Calendar) T.me_Calendar___contains__.at_ T.me_Calendar___contains__.fn G_Calendar___contains__ (hr.mono (by decide)) T.b_Calendar___contains__ pass0)) (pv 5) (pv 1) (by rfl)))) (pe_and (pe_meth (pv 0) T.cl_Calendar T.me_Calendar__chooses G_Calendar__chooses (hr.mono (by decide)) T.b_Calendar__chooses .nil pass0 (pa_cons (pv 5) pa_nil)) (pe_one (pe_meth (pv 1) T.cl_Calendar T.me_Calendar__chooses G_Calendar__chooses (hr.mono (by decide)) T.b_Calendar__chooses .nil pass0 (pa_cons (pv 5) pa_nil)))) (nomark _)))) (fun _ _ _ _ _ => (pv 5)))
    (pss_one (ps_ret (pe_make T.mk_Calendar G_Calendar___init__ (hr.mono (by decide)) rfl T.gC_Calendar T.b_Calendar___init__ .nil pass0 (pa_cons (pv 2) (pa_cons (pv 3) (pa_cons (pv 4) pa_nil))))))))), ?_⟩
    clear hr
    obtain ⟨a, b, N1, N2, m1, m2, c1, e1, c2, e2, rfl, h1, h2, f1, f2, mm, nn, l1, l2, k⟩ := h
    refine st_eq (σ' := [some _, some _, none, none, none, none]) rfl ?_
    obtain ⟨⟨dx, ca, ea, a1, a2, a3⟩, oka, _⟩ := (show Cal T.C_Calendar H a N1 c1 e1 from h1)
    obtain ⟨⟨dy, cb, eb, b1, b2, b3⟩, okb, _⟩ := (show Cal T.C_Calendar H b N2 c2 e2 from h2)
    have nma := oka.nm
    have nmb := okb.nm
    have na0 := oka.n1
    have nb0 := okb.n1
    have hc := T.cl_Calendar
    have na1 := T.na_Calendar_number
    have sn1 : Sz 90 (N1 : Int) := Sz.mk (by omega)
    have sn2 : Sz 90 (N2 : Int) := Sz.mk (by omega)
    show "go"
    have lc1 : Nat.lcm N1 N2 ∣ N1 * N2 := Nat.lcm_dvd (Nat.dvd_mul_right _ _) (Nat.dvd_mul_left _ _)
    have lc2 : Nat.lcm N1 N2 ≤ N1 * N2 := Nat.le_of_dvd (Nat.mul_pos na0 nb0) lc1
    have lc3 : 0 < Nat.lcm N1 N2 := Nat.lcm_pos na0 nb0
    have lcf := Few.lcm na0 nb0 f1 f2
    refine b_lcm (sn1.mono (by decide)) (sn2.mono (by decide)) ?_
    rw [lcmZ_nat]
    show "go"
    rename_i D ds HD fD sD hD hds
    have dl : ds.length ≤ 4000 := by
      have := lcf ds (hds.up.imp fun {a b} q => Nat.ne_of_lt q) fun d z => (hds.iff d).mp z
      omega
    refine lc_fun (prF fun d => Nat.gcd d N1 ∈ c1 ∧ Nat.gcd d N2 ∈ c2) (SqL.of hD) (by rw [List.length_map]; omega) ?_ ?_
    · intro v hv H1 s1 R kR
      obtain ⟨j, hj⟩ := List.mem_iff_getElem?.mp hv
      obtain ⟨d, rfl, hd⟩ := nI_at hj
      have hdd := (hds.iff d).mp (List.mem_of_getElem? hd)
      have sd : Sz 400 (d : Int) := Sz.mono (Sz.mk (by have := Nat.le_of_dvd lc3 hdd; omega) : Sz 90 (d : Int)) (by decide)
      have g1 := s1 _ _ (sD _ _ a1)
      have g2 := s1 _ _ (sD _ _ b1)
      have w1 := (h1.same sD).same s1
      have w2 := (h2.same sD).same s1
      have kR' : ∀ H2, Same H1 H2 → R (prF (fun d => Nat.gcd d N1 ∈ c1 ∧ Nat.gcd d N2 ∈ c2) (.int (d : Int))) H2 := kR
      clear kR s1 sD
      show "go"
      by_cases e1 : Nat.gcd d N1 ∈ c1
      · refine and_y e1 ?_
        show "go"
        by_cases e2 : Nat.gcd d N2 ∈ c2
        · rw [prF_yes (p := fun d => Nat.gcd d N1 ∈ c1 ∧ Nat.gcd d N2 ∈ c2) ⟨e1, e2⟩] at kR'
          refine lce_y e2 ?_
          show "go"
          exact kR' _ (Same.refl _)
        · rw [prF_no (p := fun d => Nat.gcd d N1 ∈ c1 ∧ Nat.gcd d N2 ∈ c2) (fun q => e2 q.2)] at kR'
          exact lce_n e2 (kR' _ (Same.refl _))
      · rw [prF_no (p := fun d => Nat.gcd d N1 ∈ c1 ∧ Nat.gcd d N2 ∈ c2) (fun q => e1 q.1)] at kR'
        refine and_n e1 ?_
        show "go"
        exact kR' _ (Same.refl _)
    intro G HG fG sG hG
    obtain ⟨gs, hgs, mg, sg⟩ := prF_fm (fun d => Nat.gcd d N1 ∈ c1 ∧ Nat.gcd d N2 ∈ c2) ds
    rw [hgs] at hG
    have lg := sg.length_le
    have r1 := sG _ _ (sD _ _ a1)
    have r2 := sG _ _ (sD _ _ b1)
    have w1 := (h1.same sD).same sG
    have w2 := (h2.same sD).same sG
    have tG : Hld (Same H HG) := ⟨sD.trans sG⟩
    clear sG sD
    show "go"
    rename_i X1 HX1 fX1 sX1 hX1 X2 HX2 fX2 sX2 hX2 Y HY fY sY hY
    rw [← List.map_append] at hY
    have tY : Same HG HY := (sX1.trans sX2).trans sY
    have yG := tY _ _ hG
    refine lc_fun (prF fun z => ¬ ((InC N1 c1 e1 (z : Int) ∧ InC N2 c2 e2 (z : Int)) ↔ (Nat.gcd z N1 ∈ c1 ∧ Nat.gcd z N2 ∈ c2))) (SqL.of hY) (by rw [List.length_map, List.length_append]; omega) ?_ ?_
    · intro v hv H1 s1 R kR
      obtain ⟨j, hj⟩ := List.mem_iff_getElem?.mp hv
      obtain ⟨z, rfl, hz⟩ := nI_at hj
      have hzm := List.mem_append.mp (List.mem_of_getElem? hz)
      have zb : 1 ≤ z ∧ z ≤ 10 ^ 30 := hzm.elim (oka.ep z) (okb.ep z)
      have sz : Sz 400 (z : Int) := Sz.mono (Sz.mk (by omega) : Sz 110 (z : Int)) (by decide)
      have g1 := s1 _ _ (tY _ _ r1)
      have g2 := s1 _ _ (tY _ _ r2)
      have v1 := (w1.same tY).same s1
      have v2 := (w2.same tY).same s1
      have kR' : ∀ H2, Same H1 H2 → R (prF (fun z => ¬ ((InC N1 c1 e1 (z : Int) ∧ InC N2 c2 e2 (z : Int)) ↔ (Nat.gcd z N1 ∈ c1 ∧ Nat.gcd z N2 ∈ c2))) (.int (z : Int))) H2 := kR
      clear kR s1 tY sY sX2 sX1
      have keep : ∀ (b : Bool) te σ, (b = true ↔ ¬ ((InC N1 c1 e1 (z : Int) ∧ InC N2 c2 e2 (z : Int)) ↔ (Nat.gcd z N1 ∈ c1 ∧ Nat.gcd z N2 ∈ c2))) → (∀ Q : VK, Q (.int (z : Int)) H1 → te σ H1 Q) → LcE R te b σ H1 := by
        intro b te σ hb ht
        cases b with
        | true =>
          rw [prF_yes (p := fun z : Nat => ¬ ((InC N1 c1 e1 (z : Int) ∧ InC N2 c2 e2 (z : Int)) ↔ (Nat.gcd z N1 ∈ c1 ∧ Nat.gcd z N2 ∈ c2))) (hb.mp rfl)] at kR'
          exact lce_T (ht _ (kR' _ (Same.refl _)))
        | false =>
          rw [prF_no (p := fun z : Nat => ¬ ((InC N1 c1 e1 (z : Int) ∧ InC N2 c2 e2 (z : Int)) ↔ (Nat.gcd z N1 ∈ c1 ∧ Nat.gcd z N2 ∈ c2))) (fun q => Bool.false_ne_true (hb.mpr q))] at kR'
          exact lce_F (kR' _ (Same.refl _))
      have tV : ∀ Q : VK, Q (.int (z : Int)) H1 → tVar 5 [some (.ref a), some (.ref b), some (.int ((Nat.lcm N1 N2 : Nat) : Int)), some (.ref G), none, some (.int (z : Int))] H1 Q := fun Q q => ⟨_, rfl, q⟩
      show "go"
      refine andv_k (B := InC N2 c2 e2 (z : Int)) (fun Q q => by show "go"; exact q) ?_
      show "go"
      refine andv_k (B := Nat.gcd z N2 ∈ c2) (fun Q q => by show "go"; exact q) ?_
      show "go"
      exact keep _ _ _ (nbl _ _) tV
    intro W HW fW sW hW
    obtain ⟨ws, hws, mw, sw2⟩ := prF_fm (fun z : Nat => ¬ ((InC N1 c1 e1 (z : Int) ∧ InC N2 c2 e2 (z : Int)) ↔ (Nat.gcd z N1 ∈ c1 ∧ Nat.gcd z N2 ∈ c2))) (e1 ++ e2)
    have hW2 : HW W = some (.lst (nI ws)) := hW.trans (congrArg (fun l => some (HO.lst l)) hws)
    have lw := sw2.length_le
    rw [List.length_append] at lw
    have gm : ∀ d, d ∈ gs ↔ d ∣ Nat.lcm N1 N2 ∧ Nat.gcd d N1 ∈ c1 ∧ Nat.gcd d N2 ∈ c2 := fun d => by rw [mg, hds.iff]
    have xm : ∀ z : Nat, z ∈ ws ↔ (z ∈ e1 ∨ z ∈ e2) ∧ ¬ ((InC N1 c1 e1 z ∧ InC N2 c2 e2 z) ↔ (Nat.gcd z N1 ∈ c1 ∧ Nat.gcd z N2 ∈ c2)) := fun z => by rw [mw, List.mem_append]
    have tW : Same H HW := (tG.out.trans tY).trans sW
    have gW := sW _ _ yG
    clear sW tY sY sX2 sX1 yG hY hW
    show "go"
    refine use_mkCalendar lc3 (by omega) lcf mm gW hW2 (fun d q => ((gm d).mp q).1) (fun x q => ((xm x).mp q).1.elim (oka.ep x) (okb.ep x)) (by omega) (by omega) ?_
    intro o Ho N cs es fo so cal ok
    exact k o Ho N cs es ⟨Same.back tW fo.out⟩ (tW.trans so) cal (and_ok gm xm lw ok)
/-! #### Calendar.__eq__: 0 self, 1 other -/
def sp_Calendar___eq__ (T : Txt K mg) : Sp := fun vs H Q _ => ∃ (a b : Addr) (N1 N2 : Nat) (c1 e1 c2 e2 : List Nat), vs = [.ref a, .ref b] ∧ (Cal T.C_Calendar H a N1 c1 e1) ∧ (Cal T.C_Calendar H b N2 c2 e2) ∧ Q (.bl (decide (N1 = N2 ∧ c1 = c2 ∧ e1 = e2))) H
theorem len_Calendar___eq__ {vs H Q E} (T : Txt K mg) (h : sp_Calendar___eq__ T vs H Q E) : vs.length = 2 := by obtain ⟨a, b, N1, N2, c1, e1, c2, e2, rfl, _⟩ := h; rfl
theorem use_Calendar___eq__ {T : Txt K mg} {H : Hp} {Q : VK} {E : XK} {a b : Addr} {N1 N2 : Nat} {c1 e1 c2 e2 : List Nat} (h1 : Cal T.C_Calendar H a N1 c1 e1) (h2 : Cal T.C_Calendar H b N2 c2 e2) (k : Q (.bl (decide (N1 = N2 ∧ c1 = c2 ∧ e1 = e2))) H) : sp_Calendar___eq__ T [.ref a, .ref b] H Q E := ⟨a, b, N1, N2, c1, e1, c2, e2, rfl, h1, h2, k⟩
local macro_rules | `(tactic| show "own") => `(tactic| (((with_reducible refine' use_Calendar___eq__ ?s1 ?s2 ?nxt); (case s1 => (show "cal")); (case s2 => (show "cal")); (case' nxt => skip))))
theorem eqS {T : Txt K mg} {H : Hp} {Q : VK} {E : XK} {a b : Addr} {S1 S2 : Int → Prop} {m1 B1 L1 m2 B2 L2 : Nat} (h1 : CalS T.C_Calendar H a S1 m1 B1 L1) (h2 : CalS T.C_Calendar H b S2 m2 B2 L2) (k : ∀ t : Bool, (t = true ↔ ∀ z : Int, S1 z ↔ S2 z) → Q (.bl t) H) : sp_Calendar___eq__ T [.ref a, .ref b] H Q E := by
  obtain ⟨N1, c1, e1, k1, f1, n1, x1, i1⟩ := h1.ob
  obtain ⟨N2, c2, e2, k2, f2, n2, x2, i2⟩ := h2.ob
  refine use_Calendar___eq__ k1 k2 (k _ ?_)
  rw [decide_eq_true_iff]
  constructor
  · rintro ⟨rfl, rfl, rfl⟩ z
    exact (i1 z).symm.trans (i2 z)
  · intro q
    exact canon_eq k1.ok k2.ok fun z => (i1 z).trans ((q z).trans (i2 z).symm)
theorem w_eqS {T : Txt K mg} {H : Hp} {Q : VK} {E : XK} {a b : Addr} {S1 S2 : Int → Prop} {m1 B1 L1 m2 B2 L2 : Nat} (h1 : CalS T.C_Calendar H a S1 m1 B1 L1) (h2 : CalS T.C_Calendar H b S2 m2 B2 L2) (k : ∀ t : Bool, (t = true ↔ ∀ z : Int, S1 z ↔ S2 z) → Q (.bl t) H) : rOwn2 T.C_Calendar (sp_Calendar___eq__ T) E (.ref a) (.ref b) H Q := by
  obtain ⟨N1, c1, e1, k1, _⟩ := h1.ob
  obtain ⟨dx, ca, ea, a1, _⟩ := k1.ob
  obtain ⟨N2, c2, e2, k2, _⟩ := h2.ob
  obtain ⟨dy, cb, eb, b1, _⟩ := k2.ob
  exact w_own2 a1 b1 (eqS h1 h2 k)
theorem w_eqY {T : Txt K mg} {H : Hp} {Q : VK} {E : XK} {a b : Addr} {S1 S2 : Int → Prop} {m1 B1 L1 m2 B2 L2 : Nat} (h1 : CalS T.C_Calendar H a S1 m1 B1 L1) (h2 : CalS T.C_Calendar H b S2 m2 B2 L2) (e : ∀ z : Int, S1 z ↔ S2 z) (k : Q (.bl true) H) : rOwn2 T.C_Calendar (sp_Calendar___eq__ T) E (.ref a) (.ref b) H Q := w_eqS h1 h2 fun t ht => by
  rw [ht.mpr e]
  exact k

theorem ok_Calendar___eq__ (T : Txt K mg) : FnOk P w K mg base CX0 1 T.f_Calendar___eq__ T.fd_Calendar___eq__ ["self", "other"] (sp_Calendar___eq__ T) := by
  refine T.F_Calendar___eq__.ok sc_Calendar___eq__ (fun vs H Q E h => ?_) (fun cdv A outer s H vs Q E hr h => ?_)
  · exact len_Calendar___eq__ T h
  · refine ⟨_, (pss_one (ps_ret (pe_and (pe_callB (c_isiK (K := K) rfl) (by rfl) T.z_isinstance (by decide +kernel) (pa_cons (pv 1) (pa_cons (pe_glob (v := .ref T.C_Calendar) rfl T.gC_Calendar rfl) pa_nil))) (pe_and (pe_cmpR (op_eqK (K := K) rfl hr.units) (pe_fldK (K := K) rfl (pv 0) rfl) (pe_fldK (K := K) rfl (pv 1) rfl) (nomark _)) (pe_and (pe_cmpR (op_eqDI hr.units) (pe_fldK (K := K) rfl (pv 0) rfl) (pe_fldK (K := K) rfl (pv 1) rfl) (nomark _)) (pe_one (pe_cmpR (op_eqDI hr.units) (pe_fldK (K := K) rfl (pv 0) rfl) (pe_fldK (K := K) rfl (pv 1) rfl) (nomark _)))))))), ?_⟩
    clear hr
    obtain ⟨a, b, N1, N2, c1, e1, c2, e2, rfl, h1, h2, k⟩ := h
    refine st_eq (σ' := [some _, some _]) rfl ?_
    obtain ⟨⟨dx, ca, ea, a1, a2, a3⟩, oka, _⟩ := (show Cal T.C_Calendar H a N1 c1 e1 from h1)
    obtain ⟨⟨dy, cb, eb, b1, b2, b3⟩, okb, _⟩ := (show Cal T.C_Calendar H b N2 c2 e2 from h2)
    have hc := T.cl_Calendar
    have ic := T.ic_Calendar
    have na1 := T.na_Calendar_number
    have na2 := T.na_Calendar_chosen
    have na3 := T.na_Calendar_extra
    show "go"
    refine andv_2 (fun i1 => ?_) (fun i1 => ?_)
    · have j1 : N1 = N2 := Int.ofNat.inj i1
      show "go"
      refine ⟨_, _, _, _, rfl, rfl, a2, b2, ?_⟩
      have d2 : decide (c1.length = c2.length ∧ ∀ k ∈ c1, k ∈ c2) = decide (c1 = c2) := decide_eq_decide.mpr (up_eq oka.cu okb.cu)
      rw [d2]
      refine andv_2 (fun i2 => ?_) (fun i2 => ?_)
      · show "go"
        refine ⟨_, _, _, _, rfl, rfl, a3, b3, ?_⟩
        have d3 : decide (e1.length = e2.length ∧ ∀ k ∈ e1, k ∈ e2) = decide (e1 = e2) := decide_eq_decide.mpr (up_eq oka.eu okb.eu)
        rw [d3]
        have d4 : decide (N1 = N2 ∧ c1 = c2 ∧ e1 = e2) = decide (e1 = e2) := decide_eq_decide.mpr ⟨fun q => q.2.2, fun q => ⟨j1, i2, q⟩⟩
        rw [d4] at k
        exact k
      · rw [decide_eq_false (fun q => i2 q.2.1)] at k
        show "go"
        exact k
    · rw [decide_eq_false (fun q => i1 (by rw [q.1]))] at k
      show "go"
      exact k
/-! #### Calendar.__invert__: 0 self, 1 divisors, 2 divisor -/
def sp_Calendar___invert__ (T : Txt K mg) : Sp := fun vs H Q _ => ∃ (r : Addr) (N m : Nat) (cs es : List Nat), vs = [.ref r] ∧ (Cal T.C_Calendar H r N cs es) ∧ (Few N m) ∧ (m ≤ 4000) ∧ (es.length ≤ 4000) ∧ ∀ x H' cs', Fr H x → Same H H' → Cal T.C_Calendar H' x N cs' es → (∀ d, d ∈ cs' ↔ d ∣ N ∧ d ∉ cs) → Q (.ref x) H'
theorem len_Calendar___invert__ {vs H Q E} (T : Txt K mg) (h : sp_Calendar___invert__ T vs H Q E) : vs.length = 1 := by obtain ⟨r, N, m, cs, es, rfl, _⟩ := h; rfl
theorem use_Calendar___invert__ {T : Txt K mg} {H : Hp} {Q : VK} {E : XK} {r : Addr} {N m : Nat} {cs es : List Nat} (h1 : Cal T.C_Calendar H r N cs es) (f1 : Few N m) (m1 : m ≤ 4000) (l1 : es.length ≤ 4000) (k : ∀ x H' cs', Fr H x → Same H H' → Cal T.C_Calendar H' x N cs' es → (∀ d, d ∈ cs' ↔ d ∣ N ∧ d ∉ cs) → Q (.ref x) H') : sp_Calendar___invert__ T [.ref r] H Q E := ⟨r, N, m, cs, es, rfl, h1, f1, m1, l1, k⟩
local macro_rules | `(tactic| show "own") => `(tactic| (((with_reducible refine' use_Calendar___invert__ ?s1 ?s2 ?s3 ?s4 ?nxt); (case s1 => (show "cal")); (case s2 => (assumption)); (case s3 => (omega)); (case s4 => (omega)); (case' nxt => skip)); intro _ _ _ _ _ _ _))
theorem w_invS {T : Txt K mg} {H : Hp} {Q : VK} {E : XK} {a : Addr} {S1 : Int → Prop} {m1 B1 L1 : Nat} (h1 : CalS T.C_Calendar H a S1 m1 B1 L1) (mm : m1 ≤ 4000) (l1 : L1 ≤ 4000) (k : ∀ x H', Fr H x → Same H H' → CalS T.C_Calendar H' x (fun z => 1 ≤ z ∧ ¬ S1 z) m1 B1 L1 → Q (.ref x) H') : rOwn1 T.C_Calendar (sp_Calendar___invert__ T) E (.ref a) H Q := by
  obtain ⟨N1, c1, e1, k1, f1, n1, x1, i1⟩ := h1.ob
  obtain ⟨dx, ca, ea, a1, _⟩ := k1.ob
  refine w_own1 a1 (use_Calendar___invert__ k1 f1 mm (by omega) fun x H' cs' fx sx cx ax => k x H' fx sx ⟨N1, cs', e1, cx, f1, n1, x1, fun z => ?_⟩)
  rw [not_in k1.ok ax, i1]
local macro_rules | `(tactic| show "step2") => `(tactic| (((with_reducible refine' w_invS ?s1 ?s2 ?s3 ?nxt); (case s1 => (show "cals")); (case s2 => (show "cz")); (case s3 => (show "cz")); (case' nxt => skip)); intro _ _ _ _ _))

theorem ok_Calendar___invert__ (T : Txt K mg) : FnOk P w K mg base CX0 6 T.f_Calendar___invert__ T.fd_Calendar___invert__ ["self"] (sp_Calendar___invert__ T) := by
  have G_Calendar___init__ : FnOk P w K mg base CX0 4 T.f_Calendar___init__ T.fd_Calendar___init__ ["self", "number", "divisors", "extra"] (sp_Calendar___init__ T) := ok_Calendar___init__ T
  have G_Calendar_extra : FnOk P w K mg base CX0 1 T.f_Calendar_extra T.fd_Calendar_extra ["self"] (sp_Calendar_extra T) := ok_Calendar_extra T
  have G_divisor_list : FnOk P w K mg base CX0 2 T.f_divisor_list T.fd_divisor_list ["number"] (sp_divisor_list T) := ok_divisor_list T
  refine T.F_Calendar___invert__.ok sc_Calendar___invert__ (fun vs H Q E h => ?_) (fun cdv A outer s H vs Q E hr h => ?_)
  · exact len_Calendar___invert__ T h
  · refine ⟨_, (pss_cons (ps_setLc (i := 1) (own := [("divisor", 2)]) rfl sc_Calendar___invert__.nd rfl rfl (sw_true rfl rfl rfl (by decide +kernel)) (pi_listK (K := K) rfl (pe_call G_divisor_list (hr.mono (by decide)) rfl T.g_divisor_list T.F_divisor_list.kp T.b_divisor_list .nil pass0 (pa_cons (pe_fldK (K := K) rfl (pv 0) rfl) pa_nil))) (blkOk_by (own := [("divisor", 2)]) (N := N_Calendar___invert__) (sc := defScope s_Calendar___invert__) (by first | decide +kernel | rfl)) (fun _ _ _ _ _ => (pg_name (i := 2) sc_Calendar___invert__.nd rfl (by first | exact Or.inl rfl | exact Or.inr rfl))) (fun _ _ _ _ _ => (pts_one (pt_cmpR (op_ninD hr.units) (pv 2) (pe_fldK (K := K) rfl (pv 0) rfl) (by rfl)))) (fun _ _ _ _ _ => (pv 2)))
    (pss_one (ps_ret (pe_make T.mk_Calendar G_Calendar___init__ (hr.mono (by decide)) rfl T.gC_Calendar T.b_Calendar___init__ .nil pass0 (pa_cons (pe_fldK (K := K) rfl (pv 0) rfl) (pa_cons (pv 1) (pa_cons (pe_prop (pv 0) T.cl_Calendar T.pr_Calendar_extra G_Calendar_extra (hr.mono (by decide)) T.b_Calendar_extra .nil pass0 rfl) pa_nil))))))), ?_⟩
    clear hr
    obtain ⟨r, N, m, cs, es, rfl, h1, f1, m1, l1, k⟩ := h
    refine st_eq (σ' := [some _, none, none]) rfl ?_
    have hcal := h1
    obtain ⟨⟨dx, c, x, h1, h2, h3⟩, hok, hne⟩ := h1
    have n2 := hok.nm
    have hc := T.cl_Calendar
    have na1 := T.na_Calendar_number
    have na2 := T.na_Calendar_chosen
    have na3 := T.na_Calendar_extra
    have sn : Sz 90 (N : Int) := Sz.mk (by omega)
    have n1 := hok.n1
    show "go"
    rename_i D ds HD fD sD hD hds
    have dl : ds.length ≤ 4000 := by
      have := f1 ds (hds.up.imp fun {a b} q => Nat.ne_of_lt q) fun d z => (hds.iff d).mp z
      omega
    refine lc_fun (prF fun d => d ∉ cs) (SqL.of hD) (by rw [List.length_map]; omega) ?_ ?_
    · intro v hv H1 s1 R kR
      obtain ⟨j, hj⟩ := List.mem_iff_getElem?.mp hv
      obtain ⟨d, rfl, hd⟩ := nI_at hj
      have g1 := s1 _ _ (sD _ _ h1)
      have g2 := s1 _ _ (sD _ _ h2)
      have kR' : ∀ H2, Same H1 H2 → R (prF (fun d => d ∉ cs) (.int (d : Int))) H2 := kR
      clear kR
      show "go"
      refine o_ninD g2 (dI_keys cs) ?_
      show "go"
      by_cases e : d ∈ cs
      · rw [prF_no (p := fun d => d ∉ cs) (fun q => q e)] at kR'
        rw [decide_eq_true e]
        exact kR' _ (Same.refl _)
      · rw [prF_yes (p := fun d => d ∉ cs) e] at kR'
        rw [decide_eq_false e]
        refine lce_T ?_
        show "go"
        exact kR' _ (Same.refl _)
    intro G HG fG sG hG
    obtain ⟨gs, hgs, mg, sg⟩ := prF_fm (fun d => d ∉ cs) ds
    rw [hgs] at hG
    have lg := sg.length_le
    have calG := (hcal.same sD).same sG
    have r1 := sG _ _ (sD _ _ h1)
    have tG : Same H HG := sD.trans sG
    clear sG sD
    show "go"
    rename_i X HX fX sX hX
    have gm : ∀ d, d ∈ gs ↔ d ∣ N ∧ d ∉ cs := fun d => by rw [mg, hds.iff]
    refine use_mkCalendar n1 n2 f1 m1 (sX _ _ hG) hX (fun d q => ((gm d).mp q).1) hok.ep (by omega) (by omega) ?_
    intro o Ho N' cs' es' fo so cal ok
    obtain ⟨rfl, rfl, hcs⟩ := not_ok hok gm ok
    exact k o Ho cs' ⟨Same.back (tG.trans sX) fo.out⟩ ((tG.trans sX).trans so) cal hcs
/-! #### Calendar.__or__: 0 self, 1 other -/
def sp_Calendar___or__ (T : Txt K mg) : Sp := fun vs H Q _ => ∃ (a b : Addr) (N1 N2 m1 m2 : Nat) (c1 e1 c2 e2 : List Nat), vs = [.ref a, .ref b] ∧ (Cal T.C_Calendar H a N1 c1 e1) ∧ (Cal T.C_Calendar H b N2 c2 e2) ∧ (Few N1 m1) ∧ (Few N2 m2) ∧ (m1 * m2 ≤ 4000) ∧ (N1 * N2 ≤ 10 ^ 24) ∧ (e1.length ≤ 1500) ∧ (e2.length ≤ 1500) ∧ ∀ x H' N cs es, Fr H x → Same H H' → Cal T.C_Calendar H' x N cs es → OrOk N1 c1 e1 N2 c2 e2 N cs es → Q (.ref x) H'
theorem len_Calendar___or__ {vs H Q E} (T : Txt K mg) (h : sp_Calendar___or__ T vs H Q E) : vs.length = 2 := by obtain ⟨a, b, N1, N2, m1, m2, c1, e1, c2, e2, rfl, _⟩ := h; rfl
theorem use_Calendar___or__ {T : Txt K mg} {H : Hp} {Q : VK} {E : XK} {a b : Addr} {N1 N2 m1 m2 : Nat} {c1 e1 c2 e2 : List Nat} (h1 : Cal T.C_Calendar H a N1 c1 e1) (h2 : Cal T.C_Calendar H b N2 c2 e2) (f1 : Few N1 m1) (f2 : Few N2 m2) (mm : m1 * m2 ≤ 4000) (nn : N1 * N2 ≤ 10 ^ 24) (l1 : e1.length ≤ 1500) (l2 : e2.length ≤ 1500) (k : ∀ x H' N cs es, Fr H x → Same H H' → Cal T.C_Calendar H' x N cs es → OrOk N1 c1 e1 N2 c2 e2 N cs es → Q (.ref x) H') : sp_Calendar___or__ T [.ref a, .ref b] H Q E := ⟨a, b, N1, N2, m1, m2, c1, e1, c2, e2, rfl, h1, h2, f1, f2, mm, nn, l1, l2, k⟩
local macro_rules | `(tactic| show "own") => `(tactic| (((with_reducible refine' use_Calendar___or__ ?s1 ?s2 ?s3 ?s4 ?s5 ?s6 ?s7 ?s8 ?nxt); (case s1 => (show "cal")); (case s2 => (show "cal")); (case s3 => (assumption)); (case s4 => (assumption)); (case s5 => (show "mm")); (case s6 => (show "nn")); (case s7 => (omega)); (case s8 => (omega)); (case' nxt => skip)); intro _ _ _ _ _ _ _ _ _))
theorem w_orS {T : Txt K mg} {H : Hp} {Q : VK} {E : XK} {a b : Addr} {S1 S2 : Int → Prop} {m1 B1 L1 m2 B2 L2 : Nat} (h1 : CalS T.C_Calendar H a S1 m1 B1 L1) (h2 : CalS T.C_Calendar H b S2 m2 B2 L2) (mm : m1 * m2 ≤ 4000) (nn : B1 * B2 ≤ 10 ^ 24) (l1 : L1 ≤ 1500) (l2 : L2 ≤ 1500) (k : ∀ x H', Fr H x → Same H H' → CalS T.C_Calendar H' x (fun z => S1 z ∨ S2 z) (m1 * m2) (B1 * B2) (L1 + L2) → Q (.ref x) H') : rOwn2 T.C_Calendar (sp_Calendar___or__ T) E (.ref a) (.ref b) H Q := by
  obtain ⟨N1, c1, e1, k1, f1, n1, x1, i1⟩ := h1.ob
  obtain ⟨N2, c2, e2, k2, f2, n2, x2, i2⟩ := h2.ob
  have nm := Nat.le_trans (Nat.mul_le_mul n1 n2) nn
  obtain ⟨⟨dx, ca, ea, a1, _⟩, ok1, _⟩ := (show Cal T.C_Calendar H a N1 c1 e1 from k1)
  obtain ⟨⟨dy, cb, eb, b1, _⟩, ok2, _⟩ := (show Cal T.C_Calendar H b N2 c2 e2 from k2)
  refine w_own2 a1 b1 (use_Calendar___or__ k1 k2 f1 f2 mm nm (by omega) (by omega) fun x H' N cs es fx sx cx ax => k x H' fx sx ⟨N, cs, es, cx, Few.dvd (Few.lcm ok1.n1 ok2.n1 f1 f2) ax.dv, ?_, ?_, fun z => ?_⟩)
  · exact Nat.le_trans (Nat.le_of_dvd (Nat.mul_pos ok1.n1 ok2.n1) (Nat.dvd_trans ax.dv (Nat.lcm_dvd (Nat.dvd_mul_right _ _) (Nat.dvd_mul_left _ _)))) (Nat.mul_le_mul n1 n2)
  · have := ax.el; omega
  · rw [ax.inC, i1, i2]
local macro_rules | `(tactic| show "step2") => `(tactic| (((with_reducible refine' w_orS ?s1 ?s2 ?s3 ?s4 ?s5 ?s6 ?nxt); (case s1 => (show "cals")); (case s2 => (show "cals")); (case s3 => (show "cz")); (case s4 => (show "cz")); (case s5 => (show "cz")); (case s6 => (show "cz")); (case' nxt => skip)); intro _ _ _ _ _))

theorem ok_Calendar___or__ (T : Txt K mg) : FnOk P w K mg base CX0 7 T.f_Calendar___or__ T.fd_Calendar___or__ ["self", "other"] (sp_Calendar___or__ T) := by
  have G_Calendar___and__ : FnOk P w K mg base CX0 6 T.f_Calendar___and__ T.fd_Calendar___and__ ["self", "other"] (sp_Calendar___and__ T) := ok_Calendar___and__ T
  have G_Calendar___invert__ : FnOk P w K mg base CX0 6 T.f_Calendar___invert__ T.fd_Calendar___invert__ ["self"] (sp_Calendar___invert__ T) := ok_Calendar___invert__ T
  refine T.F_Calendar___or__.ok sc_Calendar___or__ (fun vs H Q E h => ?_) (fun cdv A outer s H vs Q E hr h => ?_)
  · exact len_Calendar___or__ T h
  · refine ⟨_, (pss_one (ps_ret (pe_un (un_ownInv (C := T.C_Calendar) T.me_Calendar___invert__.at_ T.me_Calendar___invert__.fn G_Calendar___invert__ (hr.mono (by decide)) T.b_Calendar___invert__ pass0) (pe_op (op_own2 (C := T.C_Calendar) T.sf_Calendar T.me_Calendar___and__.at_ T.me_Calendar___and__.fn G_Calendar___and__ (hr.mono (by decide)) T.b_Calendar___and__ pass0) (pe_un (un_ownInv (C := T.C_Calendar) T.me_Calendar___invert__.at_ T.me_Calendar___invert__.fn G_Calendar___invert__ (hr.mono (by decide)) T.b_Calendar___invert__ pass0) (pv 0)) (pe_un (un_ownInv (C := T.C_Calendar) T.me_Calendar___invert__.at_ T.me_Calendar___invert__.fn G_Calendar___invert__ (hr.mono (by decide)) T.b_Calendar___invert__ pass0) (pv 1)))))), ?_⟩
    clear hr
    obtain ⟨a, b, N1, N2, m1, m2, c1, e1, c2, e2, rfl, h1, h2, f1, f2, mm, nn, l1, l2, k⟩ := h
    refine st_eq (σ' := [some _, some _]) rfl ?_
    have h1' := h1
    have h2' := h2
    obtain ⟨⟨dx, ca, ea, a1, a2, a3⟩, oka, _⟩ := (show Cal T.C_Calendar H a N1 c1 e1 from h1)
    obtain ⟨⟨dy, cb, eb, b1, b2, b3⟩, okb, _⟩ := (show Cal T.C_Calendar H b N2 c2 e2 from h2)
    have p1 : 1 ≤ m1 := f1 [1] (by simp) (fun d m => by rw [List.mem_singleton.mp m]; exact Nat.one_dvd _)
    have p2 : 1 ≤ m2 := f2 [1] (by simp) (fun d m => by rw [List.mem_singleton.mp m]; exact Nat.one_dvd _)
    have q1 : m1 ≤ 4000 := Nat.le_trans (Nat.le_mul_of_pos_right _ p2) mm
    have q2 : m2 ≤ 4000 := Nat.le_trans (Nat.le_mul_of_pos_left _ p1) mm
    have hc := T.cl_Calendar
    clear h1
    show "go"
    rename_i o1 H1 d1 fo1 so1 cal1 hd1 o2 H2 d2 fo2 so2 cal2 hd2
    have w1 := cal1.same so2
    have w2 := cal2
    obtain ⟨dx2, ca2, ea2, a12, a22, a32⟩ := w1.ob
    obtain ⟨dy2, cb2, eb2, b12, b22, b32⟩ := w2.ob
    have t2 : Hld (Same H H2) := ⟨so1.trans so2⟩
    clear so1 so2 cal1
    refine w_own2 a12 b12 ?_
    refine use_Calendar___and__ w1 w2 f1 f2 mm nn l1 l2 ?_
    intro o3 H3 N3 c3 e3 fo3 so3 cal3 aok
    have dv : Few N3 (m1 * m2) := Few.dvd (Few.lcm oka.n1 okb.n1 f1 f2) aok.dv
    have e3l := aok.el
    obtain ⟨⟨dz, cc, ec, z1, z2, z3⟩, okc, _⟩ := (show Cal T.C_Calendar H3 o3 N3 c3 e3 from cal3)
    refine w_own1 z1 ?_
    refine use_Calendar___invert__ cal3 dv mm (by omega) ?_
    intro o4 H4 c4 fo4 so4 cal4 hd4
    exact k o4 H4 N3 c4 e3 ⟨Same.back (t2.out.trans so3) fo4.out⟩ ((t2.out.trans so3).trans so4) cal4 (or_ok oka okb okc hd1 hd2 aok hd4)
/-! #### _law_made: 0 one -/
def sp__law_made (T : Txt K mg) : Sp := fun vs H Q _ => ∃ (R : Addr) (m lim xl n : Nat) (qs : List (Nat × Nat)) (ds cs xs : List Nat), vs = [.ref R] ∧ (LSet H R qs ds cs xs) ∧ (LOk m lim xl n qs ds cs xs) ∧ (lim ≤ 10 ^ 24) ∧ (m ≤ 4000) ∧ (xl ≤ 4000) ∧ ∀ x H' N cc ce, Fr H x → Same H H' → Cal T.C_Calendar H' x N cc ce → CalOk n cs xs N cc ce → Q (.ref x) H'
theorem len__law_made {vs H Q E} (T : Txt K mg) (h : sp__law_made T vs H Q E) : vs.length = 1 := by obtain ⟨R, m, lim, xl, n, qs, ds, cs, xs, rfl, _⟩ := h; rfl
theorem use__law_made {T : Txt K mg} {H : Hp} {Q : VK} {E : XK} {R : Addr} {m lim xl n : Nat} {qs : List (Nat × Nat)} {ds cs xs : List Nat} (h1 : LSet H R qs ds cs xs) (h2 : LOk m lim xl n qs ds cs xs) (b1 : lim ≤ 10 ^ 24) (b2 : m ≤ 4000) (b3 : xl ≤ 4000) (k : ∀ x H' N cc ce, Fr H x → Same H H' → Cal T.C_Calendar H' x N cc ce → CalOk n cs xs N cc ce → Q (.ref x) H') : sp__law_made T [.ref R] H Q E := ⟨R, m, lim, xl, n, qs, ds, cs, xs, rfl, h1, h2, b1, b2, b3, k⟩
local macro_rules | `(tactic| show "own") => `(tactic| (((with_reducible refine' use__law_made ?s1 ?s2 ?s3 ?s4 ?s5 ?nxt); (case s1 => (show "lset")); (case s2 => (assumption)); (case s3 => (first | decide | omega)); (case s4 => (first | decide | omega)); (case s5 => (first | decide | omega)); (case' nxt => skip)); intro _ _ _ _ _ _ _ _ _))
theorem madeS {T : Txt K mg} {H : Hp} {Q : VK} {E : XK} {R : Addr} {m lim xl n : Nat} {qs : List (Nat × Nat)} {ds cs xs : List Nat} (h1 : LSet H R qs ds cs xs) (h2 : LOk m lim xl n qs ds cs xs) (b1 : lim ≤ 10 ^ 24) (b2 : m ≤ 4000) (b3 : xl ≤ 4000) (k : ∀ x H', Fr H x → Same H H' → CalS T.C_Calendar H' x (InC n cs xs) m lim xl → Q (.ref x) H') : sp__law_made T [.ref R] H Q E :=
  use__law_made h1 h2 b1 b2 b3 fun x H' N cc ce fx sx cx ok => k x H' fx sx (.of h2.ci cx ok)
local macro_rules | `(tactic| show "step2") => `(tactic| (((with_reducible refine' madeS ?s1 ?s2 ?s3 ?s4 ?s5 ?nxt); (case s1 => (show "lset")); (case s2 => (assumption)); (case s3 => (show "cz")); (case s4 => (show "cz")); (case s5 => (show "cz")); (case' nxt => skip)); intro _ _ _ _ _))

theorem ok__law_made (T : Txt K mg) : FnOk P w K mg base CX0 6 T.f__law_made T.fd__law_made ["one"] (sp__law_made T) := by
  have G_Calendar___init__ : FnOk P w K mg base CX0 4 T.f_Calendar___init__ T.fd_Calendar___init__ ["self", "number", "divisors", "extra"] (sp_Calendar___init__ T) := ok_Calendar___init__ T
  refine T.F__law_made.ok sc__law_made (fun vs H Q E h => ?_) (fun cdv A outer s H vs Q E hr h => ?_)
  · exact len__law_made T h
  · refine ⟨_, (pss_one (ps_ret (pe_make T.mk_Calendar G_Calendar___init__ (hr.mono (by decide)) rfl T.gC_Calendar T.b_Calendar___init__ .nil pass0 (pa_cons (pe_ix (ix_seqK (K := K) rfl) (pe_ix (ix_seqK (K := K) rfl) (pv 0) pe_int (fun _ _ => rfl)) (pe_un un_neg pe_int) (fun _ _ => rfl)) (pa_cons (pe_callTy (c_listK (K := K) rfl) (by rfl) T.z_list (by decide +kernel) (pa_cons (pe_ix (ix_seqK (K := K) rfl) (pv 0) pe_int (fun _ _ => rfl)) pa_nil)) (pa_cons (pe_callTy (c_listK (K := K) rfl) (by rfl) T.z_list (by decide +kernel) (pa_cons (pe_ix (ix_seqK (K := K) rfl) (pv 0) pe_int (fun _ _ => rfl)) pa_nil)) pa_nil)))))), ?_⟩
    clear hr
    obtain ⟨R, m, lim, xl, n, qs, ds, cs, xs, rfl, h1, h2, b1, b2, b3, k⟩ := h
    refine st_eq (σ' := [some _]) rfl ?_
    obtain ⟨P, D, C, X, g1, g2, g3, g4, g5⟩ := h1.ob
    show "go"
    refine ix_l g3 (alast h2.ci.all h2.ci.n1) ?_
    show "go"
    rename_i C2 H2 f2 s2 hC2 X2 H3 f3 s3 hX3
    refine use_mkCalIn h2.ci b1 b2 b3 (s3 _ _ hC2) hX3 ?_
    intro o Ho N cc ce fo so cal ok
    exact k o Ho N cc ce ⟨Same.back (s2.trans s3) fo.out⟩ ((s2.trans s3).trans so) cal ok
/-! #### _law_dip: 0 well, 1 many, 2 number, 3 turn -/
def sp__law_dip (T : Txt K mg) : Sp := fun vs H Q _ => ∃ (p : Addr) (x y many : Int), vs = [.ref p, .int many] ∧ (H p = some (.lst [.int x, .int y])) ∧ (0 ≤ x) ∧ (0 ≤ y) ∧ (y < 10 ^ 12) ∧ (0 < many) ∧ (Sz 8999 many) ∧ ∀ r x' y' H', 0 ≤ r → r < many → 0 ≤ x' → 0 ≤ y' → y' < 10 ^ 12 → SB p H H' → H' p = some (.lst [.int x', .int y']) → Q (.int r) H'
theorem len__law_dip {vs H Q E} (T : Txt K mg) (h : sp__law_dip T vs H Q E) : vs.length = 2 := by obtain ⟨p, x, y, many, rfl, _⟩ := h; rfl
theorem use__law_dip {T : Txt K mg} {H : Hp} {Q : VK} {E : XK} {p : Addr} {x y many : Int} (h1 : H p = some (.lst [.int x, .int y])) (x0 : 0 ≤ x) (y0 : 0 ≤ y) (y1 : y < 10 ^ 12) (m0 : 0 < many) (sm : Sz 8999 many) (k : ∀ r x' y' H', 0 ≤ r → r < many → 0 ≤ x' → 0 ≤ y' → y' < 10 ^ 12 → SB p H H' → H' p = some (.lst [.int x', .int y']) → Q (.int r) H') : sp__law_dip T [.ref p, .int many] H Q E := ⟨p, x, y, many, rfl, h1, x0, y0, y1, m0, sm, k⟩
local macro_rules | `(tactic| show "own") => `(tactic| (((with_reducible refine' use__law_dip ?s1 ?s2 ?s3 ?s4 ?s5 ?s6 ?nxt); (case s1 => (show "hp")); (case s2 => (assumption)); (case s3 => (assumption)); (case s4 => (assumption)); (case s5 => (omega)); (case s6 => (show "szf")); (case' nxt => skip)); intro _ _ _ _ _ _ _ _ _ _ _))

theorem ok__law_dip (T : Txt K mg) : FnOk P w K mg base CX0 1 T.f__law_dip T.fd__law_dip ["well", "many"] (sp__law_dip T) := by
  refine T.F__law_dip.ok sc__law_dip (fun vs H Q E h => ?_) (fun cdv A outer s H vs Q E hr h => ?_)
  · exact len__law_dip T h
  · refine ⟨_, (pss_cons (ps_if (pt_cmpR op_gtU (pe_ix (ix_seqK (K := K) rfl) (pv 0) pe_int (fun _ _ => rfl)) pe_int (nomark _)) (pss_cons (ps_set (i := 2) sc__law_dip.nd rfl (Or.inl rfl) (pe_ix (ix_seqK (K := K) rfl) (pv 0) pe_int (fun _ _ => rfl)))
    (pss_cons (ps_asg (pe_op op_fdivU (pv 2) (pv 1)) (pg_sub (pv 0) pe_int set_list))
    (pss_one (ps_ret (pe_op op_modU (pe_callTy c_int1 (by rfl) T.z_int (by decide +kernel) (pa_cons (pv 2) pa_nil)) (pv 1)))))) pss_nil)
    (pss_cons (ps_set (i := 3) sc__law_dip.nd rfl (Or.inl rfl) (pe_op op_modU (pe_callTy c_int1 (by rfl) T.z_int (by decide +kernel) (pa_cons (pe_op (op_addK (K := K) rfl) (pe_op op_mulU (pe_ix (ix_seqK (K := K) rfl) (pv 0) pe_int (fun _ _ => rfl)) pe_int) pe_int) pa_nil)) pe_int))
    (pss_cons (ps_asg (pv 3) (pg_sub (pv 0) pe_int set_list))
    (pss_one (ps_ret (pe_op op_modU (pe_op op_fdivU (pe_op op_modU (pe_callTy c_int1 (by rfl) T.z_int (by decide +kernel) (pa_cons (pe_op op_mulU (pv 3) (pv 3)) pa_nil)) pe_int) pe_int) (pv 1))))))), ?_⟩
    clear hr
    obtain ⟨p, x, y, many, rfl, h1, x0, y0, y1, m0, sm, k⟩ := h
    refine st_eq (σ' := [some _, some _, none, none]) rfl ?_
    have z1 : 0 ≤ x % many := Int.emod_nonneg _ (by omega)
    have z2 : x % many < many := Int.emod_lt_of_pos _ m0
    have z3 : 0 ≤ x / many := Int.ediv_nonneg x0 (by omega)
    show "go"
    refine ifs_2 (fun e => ?_) (fun e => ?_)
    · show "go"
      exact k _ _ _ _ z1 z2 z3 y0 y1 (by show "sb") (by show "hp")
    · obtain ⟨t, ht⟩ : ∃ t, t = (y * 69069 + 40503) % 4294967291 := ⟨_, rfl⟩
      have t0 : 0 ≤ t := by omega
      have t1 : t < 4294967291 := by omega
      show "go"
      rename_i H2 s2 h2
      have h3 : H2 p = some (.lst [.int x, .int ((y * 69069 + 40503) % 4294967291)]) := h2
      rw [← ht] at h3 ⊢
      exact k _ x t H2 (Int.emod_nonneg _ (by omega)) (Int.emod_lt_of_pos _ m0) x0 t0 (by omega) s2 h3
/-! #### _law_gcd: 0 one, 1 other -/
def sp__law_gcd (T : Txt K mg) : Sp := fun vs H Q _ => ∃ (i j : Int), vs = [.int i, .int j] ∧ Q (.int (gcdZ i j)) H
theorem len__law_gcd {vs H Q E} (T : Txt K mg) (h : sp__law_gcd T vs H Q E) : vs.length = 2 := by obtain ⟨i, j, rfl, _⟩ := h; rfl
theorem use__law_gcd {T : Txt K mg} {H : Hp} {Q : VK} {E : XK} {i j : Int}  (k : Q (.int (gcdZ i j)) H) : sp__law_gcd T [.int i, .int j] H Q E := ⟨i, j, rfl, k⟩
local macro_rules | `(tactic| show "own") => `(tactic| ((with_reducible refine use__law_gcd  ?_)))

theorem ok__law_gcd (T : Txt K mg) : FnOk P w K mg base CX0 1 T.f__law_gcd T.fd__law_gcd ["one", "other"] (sp__law_gcd T) := by
  refine T.F__law_gcd.ok sc__law_gcd (fun vs H Q E h => ?_) (fun cdv A outer s H vs Q E hr h => ?_)
  · exact len__law_gcd T h
  · refine ⟨_, (pss_cons (ps_par (i := 0) (j := 1) (by rfl) sc__law_gcd.nd rfl rfl (by decide) rfl rfl (pa_cons (pe_callB c_abs (by rfl) T.z_abs (by decide +kernel) (pa_cons (pv 0) pa_nil)) (pa_cons (pe_callB c_abs (by rfl) T.z_abs (by decide +kernel) (pa_cons (pv 1) pa_nil)) pa_nil)) (by rfl))
    (pss_cons (ps_while PassesOwn.never (pt_cmpR op_gtU (pv 1) pe_int (nomark _)) (pss_one (ps_par (i := 0) (j := 1) (by rfl) sc__law_gcd.nd rfl rfl (by decide) rfl rfl (pa_cons (pv 1) (pa_cons (pe_op op_modU (pe_callTy c_int1 (by rfl) T.z_int (by decide +kernel) (pa_cons (pv 0) pa_nil)) (pv 1)) pa_nil)) (by rfl))))
    (pss_one (ps_ret (pv 0))))), ?_⟩
    clear hr
    obtain ⟨i, j, rfl, k⟩ := h
    refine st_eq (σ' := [some _, some _]) rfl ?_
    unfold gcdZ at k
    show "go"
    refine f_while (fun m σ' H' => H' = H ∧ ∃ x y : Nat, σ' = [some (.int x), some (.int y)] ∧ Nat.gcd x y = Nat.gcd i.natAbs j.natAbs ∧ m = y) ⟨_, rfl, _, _, rfl, rfl, rfl⟩ ?_
    rintro m σ' H' ⟨rfl, x, y, rfl, hg, rfl⟩
    show "go"
    refine wh_2 (fun e => ?_) (fun e => ?_)
    · show "go"
      refine ⟨x % m, Nat.mod_lt _ (by omega), rfl, m, x % m, by rw [Int.natCast_emod], ?_, rfl⟩
      rw [← hg, Nat.gcd_comm m (x % m), ← Nat.gcd_rec, Nat.gcd_comm]
    · show "go"
      have e0 : m = 0 := by omega
      subst e0
      rw [Nat.gcd_zero_right] at hg
      rw [← hg] at k
      exact k
/-! #### _law_chosen: 0 well, 1 divisors, 2 manner, 3 pivot, 4 one, 5 marks, 6 key -/
def sp__law_chosen (T : Txt K mg) : Sp := fun vs H Q _ => ∃ (p D : Addr) (x y : Int) (ds : List Nat), vs = [.ref p, .ref D] ∧ (H p = some (.lst [.int x, .int y])) ∧ (0 ≤ x) ∧ (0 ≤ y) ∧ (y < 10 ^ 12) ∧ (H D = some (.lst (nI ds))) ∧ (D ≠ p) ∧ (0 < ds.length) ∧ (∀ d ∈ ds, 1 ≤ d ∧ d ≤ 10 ^ 24) ∧ (ds.length ≤ 4000) ∧ ∀ C cs x' y' H', Fr H C → cs.Sublist ds → H' C = some (.lst (nI cs)) → 0 ≤ x' → 0 ≤ y' → y' < 10 ^ 12 → SB p H H' → H' p = some (.lst [.int x', .int y']) → Q (.ref C) H'
theorem len__law_chosen {vs H Q E} (T : Txt K mg) (h : sp__law_chosen T vs H Q E) : vs.length = 2 := by obtain ⟨p, D, x, y, ds, rfl, _⟩ := h; rfl
theorem use__law_chosen {T : Txt K mg} {H : Hp} {Q : VK} {E : XK} {p D : Addr} {x y : Int} {ds : List Nat} (h1 : H p = some (.lst [.int x, .int y])) (x0 : 0 ≤ x) (y0 : 0 ≤ y) (y1 : y < 10 ^ 12) (hD : H D = some (.lst (nI ds))) (nD : D ≠ p) (d0 : 0 < ds.length) (d1 : ∀ d ∈ ds, 1 ≤ d ∧ d ≤ 10 ^ 24) (d2 : ds.length ≤ 4000) (k : ∀ C cs x' y' H', Fr H C → cs.Sublist ds → H' C = some (.lst (nI cs)) → 0 ≤ x' → 0 ≤ y' → y' < 10 ^ 12 → SB p H H' → H' p = some (.lst [.int x', .int y']) → Q (.ref C) H') : sp__law_chosen T [.ref p, .ref D] H Q E := ⟨p, D, x, y, ds, rfl, h1, x0, y0, y1, hD, nD, d0, d1, d2, k⟩
local macro_rules | `(tactic| show "own") => `(tactic| (((with_reducible refine' use__law_chosen ?s1 ?s2 ?s3 ?s4 ?s5 ?s6 ?s7 ?s8 ?s9 ?nxt); (case s1 => (show "hp")); (case s2 => (assumption)); (case s3 => (assumption)); (case s4 => (assumption)); (case s5 => (show "hp")); (case s6 => (show "ne")); (case s7 => (omega)); (case s8 => (assumption)); (case s9 => (omega)); (case' nxt => skip)); intro _ _ _ _ _ _ _ _ _ _ _ _ _))

theorem ok__law_chosen (T : Txt K mg) : FnOk P w K mg base CX0 2 T.f__law_chosen T.fd__law_chosen ["well", "divisors"] (sp__law_chosen T) := by
  have G__law_dip : FnOk P w K mg base CX0 1 T.f__law_dip T.fd__law_dip ["well", "many"] (sp__law_dip T) := ok__law_dip T
  have G__law_gcd : FnOk P w K mg base CX0 1 T.f__law_gcd T.fd__law_gcd ["one", "other"] (sp__law_gcd T) := ok__law_gcd T
  refine T.F__law_chosen.ok sc__law_chosen (fun vs H Q E h => ?_) (fun cdv A outer s H vs Q E hr h => ?_)
  · exact len__law_chosen T h
  · refine ⟨_, (pss_cons (ps_set (i := 2) sc__law_chosen.nd rfl (Or.inl rfl) (pe_call G__law_dip (hr.mono (by decide)) rfl T.g__law_dip T.F__law_dip.kp T.b__law_dip .nil pass0 (pa_cons (pv 0) (pa_cons pe_int pa_nil))))
    (pss_cons (ps_set (i := 3) sc__law_chosen.nd rfl (Or.inr rfl) (pe_ix (ix_seqK (K := K) rfl) (pv 1) (pe_call G__law_dip (hr.mono (by decide)) rfl T.g__law_dip T.F__law_dip.kp T.b__law_dip .nil pass0 (pa_cons (pv 0) (pa_cons (pe_callB (c_lenK (K := K) rfl) (by rfl) T.z_len (by decide +kernel) (pa_cons (pv 1) pa_nil)) pa_nil))) (fun _ _ => rfl)))
    (pss_cons (ps_if (pt_cmpR (op_eqK (K := K) rfl hr.units) (pv 2) pe_int (nomark _)) (pss_one (ps_ret (pe_lc (own := [("one", 4)]) rfl sc__law_chosen.nd (pi_listK (K := K) rfl (pv 1)) (blkOk_by (own := [("one", 4)]) (N := N__law_chosen) (sc := defScope s__law_chosen) (by first | decide +kernel | rfl)) (fun _ _ _ _ _ => (pg_name (i := 4) sc__law_chosen.nd rfl (by first | exact Or.inl rfl | exact Or.inr rfl))) (fun _ _ _ _ _ => (pts_one (pt_cmpR (op_eqK (K := K) rfl hr.units) (pe_call G__law_gcd (hr.mono (by decide)) rfl T.g__law_gcd T.F__law_gcd.kp T.b__law_gcd .nil pass0 (pa_cons (pv 4) (pa_cons (pv 3) pa_nil))) pe_int (nomark _)))) (fun _ _ _ _ _ => (pv 4))))) pss_nil)
    (pss_cons (ps_if (pt_cmpR (op_eqK (K := K) rfl hr.units) (pv 2) pe_int (nomark _)) (pss_one (ps_ret (pe_lc (own := [("one", 4)]) rfl sc__law_chosen.nd (pi_listK (K := K) rfl (pv 1)) (blkOk_by (own := [("one", 4)]) (N := N__law_chosen) (sc := defScope s__law_chosen) (by first | decide +kernel | rfl)) (fun _ _ _ _ _ => (pg_name (i := 4) sc__law_chosen.nd rfl (by first | exact Or.inl rfl | exact Or.inr rfl))) (fun _ _ _ _ _ => (pts_one (pt_cmpR (op_eqK (K := K) rfl hr.units) (pe_op op_modU (pe_callTy c_int1 (by rfl) T.z_int (by decide +kernel) (pa_cons (pv 4) pa_nil)) (pv 3)) pe_int (nomark _)))) (fun _ _ _ _ _ => (pv 4))))) pss_nil)
    (pss_cons (ps_if (pt_cmpR (op_eqK (K := K) rfl hr.units) (pv 2) pe_int (nomark _)) (pss_one (ps_ret (pe_lc (own := [("one", 4)]) rfl sc__law_chosen.nd (pi_listK (K := K) rfl (pv 1)) (blkOk_by (own := [("one", 4)]) (N := N__law_chosen) (sc := defScope s__law_chosen) (by first | decide +kernel | rfl)) (fun _ _ _ _ _ => (pg_name (i := 4) sc__law_chosen.nd rfl (by first | exact Or.inl rfl | exact Or.inr rfl))) (fun _ _ _ _ _ => (pts_one (pt_cmpR (op_neK (K := K) rfl hr.units) (pv 4) (pv 3) (nomark _)))) (fun _ _ _ _ _ => (pv 4))))) pss_nil)
    (pss_cons (ps_if (pt_cmpR (op_eqK (K := K) rfl hr.units) (pv 2) pe_int (nomark _)) (pss_cons (ps_set (i := 5) sc__law_chosen.nd rfl (Or.inr rfl) pe_dnewK)
    (pss_cons (ps_for PassesOwn.never rfl (pi_listK (K := K) rfl (pv 1)) (pg_name (i := 4) sc__law_chosen.nd rfl (Or.inl rfl)) (pss_cons (ps_set (i := 6) sc__law_chosen.nd rfl (Or.inl rfl) (pe_call G__law_gcd (hr.mono (by decide)) rfl T.g__law_gcd T.F__law_gcd.kp T.b__law_gcd .nil pass0 (pa_cons (pv 4) (pa_cons (pv 3) pa_nil))))
    (pss_one (ps_if (pt_cmpR (op_ninD hr.units) (pv 6) (pv 5) (by rfl)) (pss_one (ps_asg (pe_call G__law_dip (hr.mono (by decide)) rfl T.g__law_dip T.F__law_dip.kp T.b__law_dip .nil pass0 (pa_cons (pv 0) (pa_cons pe_int pa_nil))) (pg_sub (pv 5) (pv 6) (set_dict (lt1 hr.units))))) pss_nil))))
    (pss_one (ps_ret (pe_lc (own := [("one", 4)]) rfl sc__law_chosen.nd (pi_listK (K := K) rfl (pv 1)) (blkOk_by (own := [("one", 4)]) (N := N__law_chosen) (sc := defScope s__law_chosen) (by first | decide +kernel | rfl)) (fun _ _ _ _ _ => (pg_name (i := 4) sc__law_chosen.nd rfl (by first | exact Or.inl rfl | exact Or.inr rfl))) (fun _ _ _ _ _ => (pts_one (pt_cmpR (op_eqK (K := K) rfl hr.units) (pe_dget (lt1 hr.units) (pv 5) (pe_call G__law_gcd (hr.mono (by decide)) rfl T.g__law_gcd T.F__law_gcd.kp T.b__law_gcd .nil pass0 (pa_cons (pv 4) (pa_cons (pv 3) pa_nil))) (fun _ _ => rfl)) pe_int (nomark _)))) (fun _ _ _ _ _ => (pv 4))))))) pss_nil)
    (pss_one (ps_ret (pe_lc (own := [("one", 4)]) rfl sc__law_chosen.nd (pi_listK (K := K) rfl (pv 1)) (blkOk_by (own := [("one", 4)]) (N := N__law_chosen) (sc := defScope s__law_chosen) (by first | decide +kernel | rfl)) (fun _ _ _ _ _ => (pg_name (i := 4) sc__law_chosen.nd rfl (by first | exact Or.inl rfl | exact Or.inr rfl))) (fun _ _ _ _ _ => (pts_one (pt_cmpR (op_eqK (K := K) rfl hr.units) (pe_call G__law_dip (hr.mono (by decide)) rfl T.g__law_dip T.F__law_dip.kp T.b__law_dip .nil pass0 (pa_cons (pv 0) (pa_cons pe_int pa_nil))) pe_int (nomark _)))) (fun _ _ _ _ _ => (pv 4))))))))))), ?_⟩
    clear hr
    obtain ⟨p, D, x, y, ds, rfl, h1, x0, y0, y1, hD, nD, d0, d1, d2, k⟩ := h
    refine st_eq (σ' := [some _, some _, none, none, none, none, none]) rfl ?_
    have sl : Sz 20 (ds.length : Int) := Sz.mk (by omega)
    show "go"
    rename_i mn xm ym Hm mn0 mn1 xm0 ym0 ym1 sm pm pv xv yv Hv pv0 pv1 xv0 yv0 yv1 sv pvv
    obtain ⟨j, rfl⟩ : ∃ j : Nat, pv = (j : Int) := ⟨pv.toNat, by omega⟩
    have hjl : j < ds.length := by omega
    obtain ⟨q, hq⟩ : ∃ q, ds[j]? = some q := ⟨ds[j], by simp [hjl]⟩
    refine ix_at (k := j) (by show "hp") rfl (by rw [List.getElem?_map, hq]; rfl) ?_
    have q1 := d1 q (List.mem_of_getElem? hq)
    have sq : Sz 90 (q : Int) := Sz.mk (by omega)
    have sHv : SB p H Hv := sm.trans sv
    have hDv : Hv D = some (.lst (nI ds)) := by show "hp"
    have fHv : ∀ C, Hv C = none → H C = none := fun C => sb_free sHv h1 pvv
    clear sv sm pm
    show "go"
    refine ifs_2 (fun e0 => ?_) (fun e0 => ?_)
    · show "go"
      refine lc_sub0 (ds := ds) (by omega) hDv ?_ ?_
      · intro d hd H1 s1 Z kZ
        have sd : Sz 90 (d : Int) := Sz.mk (by have := d1 d hd; omega)
        show "go"
        refine lce_2 (fun e => ?_) (fun e => ?_)
        · show "go"
          exact kZ true _ (Same.refl _)
        · exact kZ false _ (Same.refl _)
      intro C cs H' fC sub sC hC
      show "go"
      exact k C cs xv yv H' (fr_nb fHv fC) sub hC xv0 yv0 yv1 (sHv.trans (SB.of sC)) (sC _ _ pvv)
    show "go"
    refine ifs_2 (fun e1 => ?_) (fun e1 => ?_)
    · show "go"
      refine lc_sub0 (ds := ds) (by omega) hDv ?_ ?_
      · intro d hd H1 s1 Z kZ
        have sd : Sz 90 (d : Int) := Sz.mk (by have := d1 d hd; omega)
        show "go"
        refine lce_2 (fun e => ?_) (fun e => ?_)
        · show "go"
          exact kZ true _ (Same.refl _)
        · exact kZ false _ (Same.refl _)
      intro C cs H' fC sub sC hC
      show "go"
      exact k C cs xv yv H' (fr_nb fHv fC) sub hC xv0 yv0 yv1 (sHv.trans (SB.of sC)) (sC _ _ pvv)
    show "go"
    refine ifs_2 (fun e2 => ?_) (fun e2 => ?_)
    · show "go"
      refine lc_sub0 (ds := ds) (by omega) hDv ?_ ?_
      · intro d hd H1 s1 Z kZ
        have sd : Sz 90 (d : Int) := Sz.mk (by have := d1 d hd; omega)
        show "go"
        refine lce_n2 (fun e => ?_) (fun e => ?_)
        · show "go"
          exact kZ true _ (Same.refl _)
        · exact kZ false _ (Same.refl _)
      intro C cs H' fC sub sC hC
      show "go"
      exact k C cs xv yv H' (fr_nb fHv fC) sub hC xv0 yv0 yv1 (sHv.trans (SB.of sC)) (sC _ _ pvv)
    show "go"
    refine ifs_2 (fun e3 => ?_) (fun e3 => ?_)
    · show "go"
      rename_i M HM M1 M2 M3
      refine f_list (fun i σ' H' => ∃ (x y : Int) (kvs : List (Key × V)) (ks : List Nat) (v4 v6 : Option V), σ' = [some (.ref p), some (.ref D), some (.int mn), some (.int (q : Int)), v4, some (.ref M), v6] ∧ 0 ≤ x ∧ 0 ≤ y ∧ y < 10 ^ 12 ∧ SB p Hv H' ∧ H' p = some (.lst [.int x, .int y]) ∧ H' M = some (.dK kvs) ∧ Keys kvs ks ∧ (∀ z ∈ ks, ∃ w : Int, valV kvs (Sum.inl (z : Int)) = some (.int w)) ∧ (∀ d ∈ ds.take i, Nat.gcd d q ∈ ks) ∧ kvs.length ≤ i) (SqL.of (M2 _ _ hDv)) ⟨xv, yv, [], [], _, _, rfl, xv0, yv0, yv1, SB.of M2, M2 _ _ pvv, M3, Keys.nil, fun z m => (List.not_mem_nil m).elim, fun d m => (by simp at m), Nat.le_refl _⟩ (fun i σ' H' _ ⟨_, _, _, _, _, _, _, _, _, _, s2, _⟩ => SqL.of (s2 _ _ nD hDv)) ?_ ?_
      · rintro i e σ' H' hi ⟨x2, y2, kvs, ks, v4, v6, rfl, x20, y20, y21, s2, p2, hM, hK, hV, hG, hl⟩
        obtain ⟨d, rfl, hd⟩ := nI_at hi
        have ptk : ds.take (i + 1) = ds.take i ++ [d] := take_at hd
        have sd : Sz 90 (d : Int) := Sz.mk (by have := d1 d (List.mem_of_getElem? hd); omega)
        have il : i < ds.length := (List.getElem?_eq_some_iff.mp hd).1
        have hMp : M ≠ p := ne_new ⟨M1.out⟩ pvv
        show "go"
        rw [show gcdZ (d : Int) q = ((Nat.gcd d q : Nat) : Int) from gcdZ_nat _ _]
        refine o_ninD hM hK ?_
        show "go"
        by_cases m : Nat.gcd d q ∈ ks
        · rw [decide_eq_true m]
          show "go"
          refine ⟨x2, y2, kvs, ks, _, _, rfl, x20, y20, y21, s2, p2, hM, hK, hV, fun z mz => ?_, by omega⟩
          rw [ptk] at mz
          rcases List.mem_append.mp mz with mz | mz
          · exact hG z mz
          · rw [List.mem_singleton.mp mz]; exact m
        · rw [decide_eq_false m]
          show "go"
          rename_i w xw yw Hw w0 w1 xw0 yw0 yw1 sw pw
          have hMw : Hw M = some (.dK kvs) := sw _ _ hMp hM
          refine s_put hMw (by omega) ?_
          intro HZ sZ hZ
          show "go"
          refine ⟨xw, yw, _, ks ++ [Nat.gcd d q], _, _, rfl, xw0, yw0, yw1, SBq ⟨M1.out⟩ (s2.trans sw) sZ, sZ _ _ (fun e => hMp e.symm) pw, hZ, ?_, fun z mz => ?_, fun z mz => ?_, ?_⟩
          · have := hK.put (Nat.gcd d q) (V.int w)
            rwa [if_neg m] at this
          · rw [valV_put]
            by_cases e : (Sum.inl (z : Int) : Key) = Sum.inl ((Nat.gcd d q : Nat) : Int)
            · rw [if_pos e]; exact ⟨_, rfl⟩
            · rw [if_neg e]
              rcases List.mem_append.mp mz with mz | mz
              · exact hV z mz
              · exact absurd (by rw [List.mem_singleton.mp mz]) e
          · rw [ptk] at mz
            rcases List.mem_append.mp mz with mz | mz
            · exact List.mem_append_left _ (hG z mz)
            · rw [List.mem_singleton.mp mz]; exact List.mem_append_right _ (List.mem_singleton.mpr rfl)
          · have := length_putK kvs (Sum.inl ((Nat.gcd d q : Nat) : Int)) (V.int w)
            omega
      · rintro σ' H' ⟨x2, y2, kvs, ks, v4, v6, rfl, x20, y20, y21, s2, p2, hM, hK, hV, hG, hl⟩
        rw [nI, List.length_map, List.take_length] at hG
        have hD2 : H' D = some (.lst (nI ds)) := s2 _ _ nD hDv
        show "go"
        refine lc_sub0 (ds := ds) (by omega) hD2 ?_ ?_
        · intro d hd H1 s1 Z kZ
          have sd : Sz 90 (d : Int) := Sz.mk (by have := d1 d hd; omega)
          obtain ⟨w, hw⟩ := hV _ (hG d hd)
          show "go"
          rw [show gcdZ (d : Int) q = ((Nat.gcd d q : Nat) : Int) from gcdZ_nat _ _]
          refine dg_i (s1 _ _ hM) hw ?_
          show "go"
          refine lce_2 (fun e => ?_) (fun e => ?_)
          · show "go"
            exact kZ true _ (Same.refl _)
          · exact kZ false _ (Same.refl _)
        intro C cs H2 fC sub sC hC
        show "go"
        exact k C cs x2 y2 H2 (fr_nb fHv ⟨sb_free s2 pvv p2 fC.out⟩) sub hC x20 y20 y21 ((sHv.trans s2).trans (SB.of sC)) (sC _ _ p2)
    · show "go"
      refine lc_sub (ds := ds) (fun H1 => ∃ x y : Int, 0 ≤ x ∧ 0 ≤ y ∧ y < 10 ^ 12 ∧ SB p Hv H1 ∧ H1 p = some (.lst [.int x, .int y])) (by omega) ⟨xv, yv, xv0, yv0, yv1, SB.refl _ _, pvv⟩ (fun H1 ⟨_, _, _, _, _, s2, _⟩ => s2 _ _ nD hDv) ?_ ?_ ?_
      · rintro D2 hD2 H1 H2 s2 ⟨x2, y2, x20, y20, y21, s1, p1⟩
        exact ⟨x2, y2, x20, y20, y21, SBn hD2 s1 s2, s2 _ _ (ne_of_none pvv hD2) p1⟩
      · rintro d hd H1 ⟨x2, y2, x20, y20, y21, s1, p1⟩ Z kZ
        show "go"
        rename_i w xw yw Hw w0 w1 xw0 yw0 yw1 sw pw
        have keep : ∀ a u, Hv a = none → H1 a = some u → Hw a = some u := fun a u e1 e2 => sw _ _ (fun z => by rw [z, pvv] at e1; cases e1) e2
        refine lce_2 (fun e => ?_) (fun e => ?_)
        · show "go"
          exact kZ true _ keep ⟨xw, yw, xw0, yw0, yw1, s1.trans sw, pw⟩
        · exact kZ false _ keep ⟨xw, yw, xw0, yw0, yw1, s1.trans sw, pw⟩
      rintro C cs H2 fC sub ⟨x2, y2, x20, y20, y21, s2, p2⟩ hC
      show "go"
      exact k C cs x2 y2 H2 (fr_nb fHv fC) sub hC x20 y20 y21 (sHv.trans s2) p2
/-! #### _law_divisors: 0 parts, 1 found, 2 prime, 3 power, 4 times, 5 more, 6 turn, 7 one -/
def sp__law_divisors (T : Txt K mg) : Sp := fun vs H Q _ => ∃ (P : Addr) (qs : List (Nat × Nat)), vs = [.ref P] ∧ (Prs H P qs) ∧ (Parts qs) ∧ (manyP qs ≤ 4000) ∧ (numP qs ≤ 10 ^ 24) ∧ ∀ D ds H', Fr H D → Same H H' → H' D = some (.lst (nI ds)) → AllDivs (numP qs) ds → ds.length = manyP qs → Q (.ref D) H'
theorem len__law_divisors {vs H Q E} (T : Txt K mg) (h : sp__law_divisors T vs H Q E) : vs.length = 1 := by obtain ⟨P, qs, rfl, _⟩ := h; rfl
theorem use__law_divisors {T : Txt K mg} {H : Hp} {Q : VK} {E : XK} {P : Addr} {qs : List (Nat × Nat)} (h1 : Prs H P qs) (h2 : Parts qs) (h3 : manyP qs ≤ 4000) (h4 : numP qs ≤ 10 ^ 24) (k : ∀ D ds H', Fr H D → Same H H' → H' D = some (.lst (nI ds)) → AllDivs (numP qs) ds → ds.length = manyP qs → Q (.ref D) H') : sp__law_divisors T [.ref P] H Q E := ⟨P, qs, rfl, h1, h2, h3, h4, k⟩
local macro_rules | `(tactic| show "own") => `(tactic| (((with_reducible refine' use__law_divisors ?s1 ?s2 ?s3 ?s4 ?nxt); (case s1 => (show "prs")); (case s2 => (assumption)); (case s3 => (omega)); (case s4 => (omega)); (case' nxt => skip)); intro _ _ _ _ _ _ _ _))

theorem manyP_pos (qs : List (Nat × Nat)) : 1 ≤ manyP qs := by
  induction qs using snoc_ind with
  | h0 => exact Nat.le_refl 1
  | hs qs q ih => rw [manyP_snoc]; exact Nat.mul_pos ih (Nat.succ_pos _)
theorem manyP_le {qs : List (Nat × Nat)} (h : Parts qs) (i : Nat) : manyP (qs.take i) ≤ manyP qs := by
  have aux : ∀ (l r : List (Nat × Nat)), manyP l ≤ manyP (l ++ r) := by
    intro l r
    induction r using snoc_ind with
    | h0 => rw [List.append_nil]; exact Nat.le_refl _
    | hs r q ih => rw [← List.append_assoc, manyP_snoc]; exact Nat.le_trans ih (Nat.le_mul_of_pos_right _ (Nat.succ_pos _))
  have := aux (qs.take i) (qs.drop i)
  rwa [List.take_append_drop] at this

theorem ok__law_divisors (T : Txt K mg) : FnOk P w K mg base CX0 1 T.f__law_divisors T.fd__law_divisors ["parts"] (sp__law_divisors T) := by
  refine T.F__law_divisors.ok sc__law_divisors (fun vs H Q E h => ?_) (fun cdv A outer s H vs Q E hr h => ?_)
  · exact len__law_divisors T h
  · refine ⟨_, (pss_cons (ps_set (i := 1) sc__law_divisors.nd rfl (Or.inl rfl) (pe_lst (pa_cons pe_int pa_nil)))
    (pss_cons (ps_for PassesOwn.never rfl (pi_listK (K := K) rfl (pv 0)) (pg_tlK (K := K) rfl rfl (pgs_cons (pg_name (i := 2) sc__law_divisors.nd rfl (Or.inl rfl)) (pgs_cons (pg_name (i := 3) sc__law_divisors.nd rfl (Or.inl rfl)) pgs_nil))) (pss_cons (ps_set (i := 4) sc__law_divisors.nd rfl (Or.inr rfl) pe_int)
    (pss_cons (ps_set (i := 5) sc__law_divisors.nd rfl (Or.inl rfl) (pe_callTy (c_listK (K := K) rfl) (by rfl) T.z_list (by decide +kernel) (pa_cons (pv 1) pa_nil)))
    (pss_cons (ps_for PassesOwn.never rfl (pi_range1 rfl T.z_range (pa_cons (pv 3) pa_nil)) (pg_name (i := 6) sc__law_divisors.nd rfl (Or.inl rfl)) (pss_cons (ps_set (i := 4) sc__law_divisors.nd rfl (Or.inr rfl) (pe_op op_mulU (pv 4) (pv 2)))
    (pss_one (ps_expr (pe_bmK (K := K) rfl PySem.F.plainAttrs_list PySem.F.slot_list_extend PySem.F.type_list_extend mt_extend (pv 5) (pa_cons (pe_lc (own := [("one", 7)]) rfl sc__law_divisors.nd (pi_listK (K := K) rfl (pv 1)) (blkOk_by (own := [("one", 7)]) (N := N__law_divisors) (sc := defScope s__law_divisors) (by first | decide +kernel | rfl)) (fun _ _ _ _ _ => (pg_name (i := 7) sc__law_divisors.nd rfl (by first | exact Or.inl rfl | exact Or.inr rfl))) (fun _ _ _ _ _ => pts_nil) (fun _ _ _ _ _ => (pe_op op_mulU (pv 7) (pv 4)))) pa_nil))))))
    (pss_one (ps_set (i := 1) sc__law_divisors.nd rfl (Or.inl rfl) (pv 5)))))))
    (pss_one (ps_ret (pe_callB (c_sortedK (K := K) rfl) (by rfl) T.z_sorted (by decide +kernel) (pa_cons (pv 1) pa_nil)))))), ?_⟩
    clear hr
    obtain ⟨P, qs, rfl, h1, h2, h3, h4, k⟩ := h
    refine st_eq (σ' := [some _, none, none, none, none, none, none, none]) rfl ?_
    obtain ⟨as, hP1, hP2, hP3⟩ := h1.ob
    have npos := h2.pos
    generalize hn : numP qs = n at *
    show "go"
    rename_i D0 HD0 D1 D2 D3
    refine f_list (fun i σ' H' => Same H H' ∧ ∃ (D : Addr) (ds : List Nat) (v2 v3 v4 v5 v6 : Option V), σ' = [some (.ref P), some (.ref D), v2, v3, v4, v5, v6, none] ∧ H' D = some (.lst (nI ds)) ∧ Divs n ((qs.take i).map Prod.fst) ds ∧ ds.length = manyP (qs.take i)) (SqL.of (D2 _ _ hP1)) ⟨D2, D0, [1], _, _, _, _, _, rfl, D3, Divs.start npos, rfl⟩ (fun i σ' H' _ q => SqL.of (q.1 _ _ hP1)) ?_ ?_
    · rintro i e σ' H' hi ⟨s6, D, ds, v2, v3, v4, v5, v6, rfl, hD, hd, dl⟩
      rw [List.getElem?_map] at hi
      obtain ⟨a, ha, rfl⟩ := Option.map_eq_some_iff.mp hi
      have il := (List.getElem?_eq_some_iff.mp ha).1
      obtain ⟨⟨p, kk⟩, hq⟩ : ∃ q, qs[i]? = some q := ⟨qs[i]'(by omega), by simp⟩
      have hT := s6 _ _ (hP3 i a _ ha hq)
      have mq := List.mem_of_getElem? hq
      obtain ⟨hp, k1⟩ := h2.pr _ mq
      obtain ⟨f1, f2⟩ := h2.full mq
      rw [hn] at f1 f2
      have tk : qs.take (i + 1) = qs.take i ++ [(p, kk)] := by rw [List.take_succ, hq]; rfl
      have pq : Parts (qs.take (i + 1) ++ qs.drop (i + 1)) := by rw [List.take_append_drop]; exact h2
      have np : p ∉ (qs.take i).map Prod.fst := fun m => by
        have nd := pq.left.nd
        rw [tk, List.map_append] at nd
        exact (List.pairwise_append.mp nd).2.2 p m p (List.mem_singleton.mpr rfl) rfl
      have hp2 := hp.1
      have pkn : p ^ kk ≤ n := Nat.le_of_dvd npos f1
      have kl : kk ≤ 90 := by
        apply Classical.byContradiction
        intro w
        have z1 : 2 ^ kk ≤ p ^ kk := Nat.pow_le_pow_left hp2 kk
        have z2 : 2 ^ 91 ≤ 2 ^ kk := Nat.pow_le_pow_right (by decide) (by omega)
        have z3 : (10 : Nat) ^ 24 < 2 ^ 91 := by decide
        omega
      have pl : p ≤ n := Nat.le_of_dvd npos (Nat.dvd_trans (by have := Nat.pow_dvd_pow p k1; rwa [Nat.pow_one] at this) f1)
      have sp : Sz 90 (p : Int) := Sz.mk (by omega)
      have dl2 : (nI ds).length ≤ 4000 := by rw [List.length_map]; exact Nat.le_trans (hd.nd.length_le_of_subset fun d m => m) (by rw [dl]; exact Nat.le_trans (manyP_le h2 i) h3)
      show "go"
      rename_i M HM M1 M2 M3
      refine f_rng1 (fun j σ' H'' => SB M HM H'' ∧ ∃ (ds2 : List Nat) (v6 : Option V), σ' = [some (.ref P), some (.ref D), some (.int (p : Int)), some (.int (kk : Int)), some (.int ((p ^ j : Nat) : Int)), some (.ref M), v6, none] ∧ H'' M = some (.lst (nI ds2)) ∧ Inn n ((qs.take i).map Prod.fst) p j ds2 ∧ ds2.length = ds.length * (j + 1)) (by omega) (by omega) ⟨SB.refl _ _, ds, _, rfl, M3, hd.inn np hp, by omega⟩ ?_ ?_
      · rintro j σ' H'' hj ⟨s7, ds2, v6, rfl, hM, hI, hl2⟩
        have pd : p ^ (j + 1) ∣ n := Nat.dvd_trans (Nat.pow_dvd_pow p (by omega)) f1
        have pjl : p ^ (j + 1) ≤ n := Nat.le_of_dvd npos pd
        have pjl2 : p ^ j ≤ p ^ (j + 1) := Nat.pow_le_pow_right (by omega) (by omega)
        have s1 : Sz 90 ((p ^ j : Nat) : Int) := Sz.mk (by omega)
        have s2 : Sz 90 ((p ^ (j + 1) : Nat) : Int) := Sz.mk (by omega)
        have eM : ((p ^ j : Nat) : Int) * (p : Int) = ((p ^ (j + 1) : Nat) : Int) := by rw [Nat.pow_succ]; push_cast; rfl
        have hDj : H'' D = some (.lst (nI ds)) := s7 _ _ (ne_new' M1 hD) (M2 _ _ hD)
        have d2l : (nI ds2).length ≤ 4000 * 91 := by
          rw [List.length_map, hl2]
          rw [List.length_map] at dl2
          exact Nat.mul_le_mul dl2 (by omega)
        have d2m : (nI ds2).length ≤ 4000 := by
          rw [List.length_map]
          have z := hI.nd
          refine Nat.le_trans ?_ (Nat.le_trans (manyP_le h2 (i + 1)) h3)
          rw [tk, manyP_snoc, hl2, dl]
          exact Nat.mul_le_mul_left _ (show j + 1 ≤ kk + 1 by omega)
        show "go"
        rw [eM]
        generalize hW : p ^ (j + 1) = W at *
        refine lc_fun (mulF W) (SqL.of hDj) (by omega) ?_ ?_
        · intro x hx H1 s8 R kR
          obtain ⟨jj, hj2⟩ := List.mem_iff_getElem?.mp hx
          obtain ⟨d, rfl, hd2⟩ := nI_at hj2
          have dn : d ≤ n := Nat.le_of_dvd npos ((hd.iff d).mp (List.mem_of_getElem? hd2)).1
          have sd : Sz 90 (d : Int) := Sz.mk (by omega)
          have kR' : ∀ H2, Same H1 H2 → R (some (.int ((d : Int) * W))) H2 := kR
          clear kR
          show "go"
          exact kR' _ (Same.refl _)
        intro X HX fX tX hX
        rw [nI_fm] at hX
        have hMX := tX _ _ hM
        have hI2 := hI.step hd np hp (hW ▸ pd)
        rw [hW] at hI2
        show "go"
        rename_i HY sY hY
        rw [← List.map_append] at hY
        exact ⟨(s7.trans (SB.of tX)).trans sY, ds2 ++ ds.map (· * W), _, rfl, hY, hI2, by rw [List.length_append, List.length_map, hl2]; grind⟩
      · rintro σ' H'' ⟨s7, ds2, v6, rfl, hM, hI, hl2⟩
        rw [Int.toNat_natCast] at hI hl2
        show "go"
        exact ⟨s6.trans (SB.same M2 M1 s7), M, ds2, _, _, _, _, _, rfl, hM, by rw [tk, List.map_append]; exact hI.done f2, by rw [tk, manyP_snoc, hl2, dl]⟩
    · rintro σ' H' ⟨s6, D, ds, v2, v3, v4, v5, v6, rfl, hD, hd, dl⟩
      rw [List.length_map, hP2, List.take_length] at hd dl
      show "go"
      refine ⟨D, ds.map fun d : Nat => (d : Int), rfl, SqL.of (by rw [List.map_map]; exact hD), fun ns X pm up hX => ?_⟩
      obtain ⟨es, rfl, u1, u2⟩ := srt_nat hd.nd pm up
      rw [List.map_map]
      exact k X es _ ⟨Same.back s6 hX⟩ (s6.trans (same_upd hX)) upd_same ⟨u1, fun d => by rw [u2 d]; exact hd.allP hn.symm h2 d⟩ (by have := pm.length_eq; rw [List.length_map, List.length_map] at this; rw [this, dl])
/-! #### _law_extra: 0 well, 1 divisors, 2 run, 3 sizes, 4 turn, 5 near, 6 times, 7 size, 8 one -/
def sp__law_extra (T : Txt K mg) : Sp := fun vs H Q _ => ∃ (p D : Addr) (x y run : Int) (ds : List Nat), vs = [.ref p, .ref D, .int run] ∧ (H p = some (.lst [.int x, .int y])) ∧ (0 ≤ x) ∧ (0 ≤ y) ∧ (y < 10 ^ 12) ∧ (H D = some (.lst (nI ds))) ∧ (D ≠ p) ∧ (0 < ds.length) ∧ (∀ d ∈ ds, 1 ≤ d ∧ d ≤ 10 ^ 24) ∧ (ds.length ≤ 4000) ∧ (0 ≤ run) ∧ (run ≤ 4000) ∧ ∀ X xs x' y' H', Fr H X → (∀ z ∈ xs, 1 ≤ z ∧ z ≤ 10 ^ 6) → (xs.length : Int) ≤ run + 6 → H' X = some (.lst (nI xs)) → 0 ≤ x' → 0 ≤ y' → y' < 10 ^ 12 → SB p H H' → H' p = some (.lst [.int x', .int y']) → Q (.ref X) H'
theorem len__law_extra {vs H Q E} (T : Txt K mg) (h : sp__law_extra T vs H Q E) : vs.length = 3 := by obtain ⟨p, D, x, y, run, ds, rfl, _⟩ := h; rfl
theorem use__law_extra {T : Txt K mg} {H : Hp} {Q : VK} {E : XK} {p D : Addr} {x y run : Int} {ds : List Nat} (h1 : H p = some (.lst [.int x, .int y])) (x0 : 0 ≤ x) (y0 : 0 ≤ y) (y1 : y < 10 ^ 12) (hD : H D = some (.lst (nI ds))) (nD : D ≠ p) (d0 : 0 < ds.length) (d1 : ∀ d ∈ ds, 1 ≤ d ∧ d ≤ 10 ^ 24) (d2 : ds.length ≤ 4000) (r0 : 0 ≤ run) (r1 : run ≤ 4000) (k : ∀ X xs x' y' H', Fr H X → (∀ z ∈ xs, 1 ≤ z ∧ z ≤ 10 ^ 6) → (xs.length : Int) ≤ run + 6 → H' X = some (.lst (nI xs)) → 0 ≤ x' → 0 ≤ y' → y' < 10 ^ 12 → SB p H H' → H' p = some (.lst [.int x', .int y']) → Q (.ref X) H') : sp__law_extra T [.ref p, .ref D, .int run] H Q E := ⟨p, D, x, y, run, ds, rfl, h1, x0, y0, y1, hD, nD, d0, d1, d2, r0, r1, k⟩
local macro_rules | `(tactic| show "own") => `(tactic| (((with_reducible refine' use__law_extra ?s1 ?s2 ?s3 ?s4 ?s5 ?s6 ?s7 ?s8 ?s9 ?s10 ?s11 ?nxt); (case s1 => (show "hp")); (case s2 => (assumption)); (case s3 => (assumption)); (case s4 => (assumption)); (case s5 => (show "hp")); (case s6 => (show "ne")); (case s7 => (omega)); (case s8 => (assumption)); (case s9 => (omega)); (case s10 => (omega)); (case s11 => (omega)); (case' nxt => skip)); intro _ _ _ _ _ _ _ _ _ _ _ _ _ _))

theorem rng_up (n : Nat) : (rngV 0 n).filterMap (fun v => match v with | .int i => some (V.int (i + 1)) | _ => none) = nI ((List.range n).map (· + 1)) := by
  unfold rngV
  rw [List.filterMap_map, nI, List.map_map, ← List.filterMap_eq_map]
  congr 1
  funext k
  show some (V.int ((0 : Int) + (k : Int) + 1)) = some (V.int (((k + 1 : Nat)) : Int))
  rw [Int.zero_add]
  rfl

theorem ok__law_extra (T : Txt K mg) : FnOk P w K mg base CX0 2 T.f__law_extra T.fd__law_extra ["well", "divisors", "run"] (sp__law_extra T) := by
  have G__law_dip : FnOk P w K mg base CX0 1 T.f__law_dip T.fd__law_dip ["well", "many"] (sp__law_dip T) := ok__law_dip T
  refine T.F__law_extra.ok sc__law_extra (fun vs H Q E h => ?_) (fun cdv A outer s H vs Q E hr h => ?_)
  · exact len__law_extra T h
  · refine ⟨_, (pss_cons (ps_set (i := 3) sc__law_extra.nd rfl (Or.inl rfl) (pe_lst pa_nil))
    (pss_cons (ps_for PassesOwn.never rfl (pi_range1 rfl T.z_range (pa_cons (pe_ix (ix_seqK (K := K) rfl) (pe_lst (pa_cons pe_int (pa_cons pe_int (pa_cons pe_int (pa_cons pe_int pa_nil))))) (pe_call G__law_dip (hr.mono (by decide)) rfl T.g__law_dip T.F__law_dip.kp T.b__law_dip .nil pass0 (pa_cons (pv 0) (pa_cons pe_int pa_nil))) (fun _ _ => rfl)) pa_nil)) (pg_name (i := 4) sc__law_extra.nd rfl (Or.inl rfl)) (pss_cons (ps_set (i := 5) sc__law_extra.nd rfl (Or.inl rfl) (pe_ix (ix_seqK (K := K) rfl) (pv 1) (pe_call G__law_dip (hr.mono (by decide)) rfl T.g__law_dip T.F__law_dip.kp T.b__law_dip .nil pass0 (pa_cons (pv 0) (pa_cons (pe_callB (c_lenK (K := K) rfl) (by rfl) T.z_len (by decide +kernel) (pa_cons (pv 1) pa_nil)) pa_nil))) (fun _ _ => rfl)))
    (pss_cons (ps_set (i := 6) sc__law_extra.nd rfl (Or.inl rfl) (pe_op (op_addK (K := K) rfl) pe_int (pe_call G__law_dip (hr.mono (by decide)) rfl T.g__law_dip T.F__law_dip.kp T.b__law_dip .nil pass0 (pa_cons (pv 0) (pa_cons pe_int pa_nil)))))
    (pss_cons (ps_set (i := 7) sc__law_extra.nd rfl (Or.inl rfl) (pe_ix (ix_seqK (K := K) rfl) (pe_lst (pa_cons (pv 6) (pa_cons (pv 5) (pa_cons (pe_op (op_addK (K := K) rfl) pe_int (pe_call G__law_dip (hr.mono (by decide)) rfl T.g__law_dip T.F__law_dip.kp T.b__law_dip .nil pass0 (pa_cons (pv 0) (pa_cons pe_int pa_nil)))) (pa_cons (pe_op op_mulU (pv 5) (pv 6)) pa_nil))))) (pe_call G__law_dip (hr.mono (by decide)) rfl T.g__law_dip T.F__law_dip.kp T.b__law_dip .nil pass0 (pa_cons (pv 0) (pa_cons pe_int pa_nil))) (fun _ _ => rfl)))
    (pss_one (ps_expr (pe_bmK (K := K) rfl PySem.F.plainAttrs_list PySem.F.slot_list_append PySem.F.type_list_append mt_append (pv 3) (pa_cons (pe_op (op_addK (K := K) rfl) pe_int (pe_op op_modU (pe_callTy c_int1 (by rfl) T.z_int (by decide +kernel) (pa_cons (pe_op op_subU (pv 7) pe_int) pa_nil)) pe_int)) pa_nil))))))))
    (pss_cons (ps_if (pt_cmpR (op_eqK (K := K) rfl hr.units) (pe_call G__law_dip (hr.mono (by decide)) rfl T.g__law_dip T.F__law_dip.kp T.b__law_dip .nil pass0 (pa_cons (pv 0) (pa_cons pe_int pa_nil))) pe_int (nomark _)) (pss_one (ps_expr (pe_bmK (K := K) rfl PySem.F.plainAttrs_list PySem.F.slot_list_extend PySem.F.type_list_extend mt_extend (pv 3) (pa_cons (pe_lc (own := [("one", 8)]) rfl sc__law_extra.nd (pi_range1 rfl T.z_range (pa_cons (pe_call G__law_dip (hr.mono (by decide)) rfl T.g__law_dip T.F__law_dip.kp T.b__law_dip .nil pass0 (pa_cons (pv 0) (pa_cons (pe_op (op_addK (K := K) rfl) (pv 2) pe_int) pa_nil))) pa_nil)) (blkOk_by (own := [("one", 8)]) (N := N__law_extra) (sc := defScope s__law_extra) (by first | decide +kernel | rfl)) (fun _ _ _ _ _ => (pg_name (i := 8) sc__law_extra.nd rfl (by first | exact Or.inl rfl | exact Or.inr rfl))) (fun _ _ _ _ _ => pts_nil) (fun _ _ _ _ _ => (pe_op (op_addK (K := K) rfl) (pv 8) pe_int))) pa_nil)))) pss_nil)
    (pss_one (ps_ret (pv 3)))))), ?_⟩
    clear hr
    obtain ⟨p, D, x, y, run, ds, rfl, h1, x0, y0, y1, hD, nD, d0, d1, d2, r0, r1, k⟩ := h
    refine st_eq (σ' := [some _, some _, some _, none, none, none, none, none, none]) rfl ?_
    have sl : Sz 20 (ds.length : Int) := Sz.mk (by omega)
    have srun : Sz 20 run := Sz.mk (by omega)
    show "go"
    rename_i X0 HX0 X1 X2 X3 L0 HL0 L1 L2 L3 tz xt yt Ht tz0 tz1 xt0 yt0 yt1 st pt
    refine' ix_all (P := fun v => ∃ m : Int, v = .int m ∧ 0 ≤ m ∧ m ≤ 6) (by show "hp") (by omega) (by simp only [List.length_cons, List.length_nil]; omega) (fun v hv => ?_) ?_
    · simp only [List.mem_cons, List.not_mem_nil, or_false] at hv
      rcases hv with rfl | rfl | rfl | rfl <;> exact ⟨_, rfl, by omega, by omega⟩
    rintro _ ⟨m, rfl, m0, m6⟩
    have nX : X0 ≠ p := ne_new X1 h1
    have nXD : D ≠ X0 := ne_new' X1 hD
    have hXt : Ht X0 = some (.lst (nI [])) := by show "hp"
    have sHt : SB p H Ht := by show "sb"
    clear st L3 L2 L1
    show "go"
    refine f_rng1 (fun i σ' H' => ∃ (x y : Int) (xs : List Nat) (v4 v5 v6 v7 : Option V), σ' = [some (.ref p), some (.ref D), some (.int run), some (.ref X0), v4, v5, v6, v7, none] ∧ 0 ≤ x ∧ 0 ≤ y ∧ y < 10 ^ 12 ∧ SB p H H' ∧ H' p = some (.lst [.int x, .int y]) ∧ H' X0 = some (.lst (nI xs)) ∧ (∀ z ∈ xs, 1 ≤ z ∧ z ≤ 10 ^ 6) ∧ xs.length ≤ i) (by omega) (by omega) ⟨xt, yt, [], _, _, _, _, rfl, xt0, yt0, yt1, sHt, pt, hXt, fun z m => (List.not_mem_nil m).elim, Nat.le_refl _⟩ ?_ ?_
    · rintro i σ' H' hi ⟨x2, y2, xs, v4, v5, v6, v7, rfl, x20, y20, y21, s2, p2, hX, hx, hl⟩
      have hD2 : H' D = some (.lst (nI ds)) := s2 _ _ nD hD
      have hl2 : (nI xs).length ≤ 10 := by rw [List.length_map]; omega
      show "go"
      rename_i pv xv yv Hv pv0 pv1 xv0 yv0 yv1 sv pvv
      obtain ⟨j, rfl⟩ : ∃ j : Nat, pv = (j : Int) := ⟨pv.toNat, by omega⟩
      have hjl : j < ds.length := by omega
      obtain ⟨q, hq⟩ : ∃ q, ds[j]? = some q := ⟨ds[j], by simp [hjl]⟩
      refine ix_at (k := j) (by show "hp") rfl (by rw [List.getElem?_map, hq]; rfl) ?_
      have q1 := d1 q (List.mem_of_getElem? hq)
      have sq : Sz 90 (q : Int) := Sz.mk (by omega)
    
      have sHv : SB p H Hv := s2.trans sv
      have hXv : Hv X0 = some (.lst (nI xs)) := sv _ _ nX hX
      clear sv
      show "go"
      rename_i tm xm ym Hm tm0 tm1 xm0 ym0 ym1 sm pm rr xr yr Hr rr0 rr1 xr0 yr0 yr1 sr pr L5 HL5 L51 L52 L53 w xw yw Hw w0 w1 xw0 yw0 yw1 sw pw
      refine' ix_all (P := fun v => ∃ m : Int, v = .int m ∧ Sz 120 m) (by show "hp") (by omega) (by simp only [List.length_cons, List.length_nil]; omega) (fun v hv => ?_) ?_
      · simp only [List.mem_cons, List.not_mem_nil, or_false] at hv
        rcases hv with rfl | rfl | rfl | rfl
        · exact ⟨_, rfl, Sz.mk (by omega)⟩
        · exact ⟨_, rfl, sq.mono (by decide)⟩
        · exact ⟨_, rfl, Sz.mk (by omega)⟩
        · exact ⟨_, rfl, (sq.mul (show Sz 10 (1 + tm) from Sz.mk (by omega))).mono (by decide)⟩
      rintro _ ⟨sz, rfl, ssz⟩
      have sHw : SB p H Hw := ((((sHv.trans sm).trans sr).trans (SB.of L52))).trans sw
      have hXw : Hw X0 = some (.lst (nI xs)) := sw _ _ nX (L52 _ _ (sr _ _ nX (sm _ _ nX hXv)))
      clear sm sr sw L52
      show "go"
      rename_i HZ sZ hZ
      obtain ⟨e, he⟩ : ∃ e : Nat, 1 + (sz - 1) % 1000000 = (e : Int) := ⟨(1 + (sz - 1) % 1000000).toNat, by omega⟩
      rw [he] at hZ
      refine ⟨xw, yw, xs ++ [e], _, _, _, _, rfl, xw0, yw0, yw1, SBq X1 sHw sZ, sZ _ _ (fun z => nX z.symm) pw, by rw [hZ, nI_snoc], fun z mz => ?_, by rw [List.length_append]; simp only [List.length_singleton]; omega⟩
      rcases List.mem_append.mp mz with mz | mz
      · exact hx z mz
      · rw [List.mem_singleton.mp mz]; omega
    · rintro σ' H' ⟨x2, y2, xs, v4, v5, v6, v7, rfl, x20, y20, y21, s2, p2, hX, hx, hl⟩
      have hl3 : (nI xs).length ≤ 10 := by rw [List.length_map]; omega
      show "go"
      rename_i d9 x9 y9 H9 d90 d91 x90 y90 y91 s9 p9
      have hX9 := s9 _ _ nX hX
      have sH9 : SB p H H9 := s2.trans s9
      refine ifs_2 (fun e4 => ?_) (fun e4 => ?_)
      · show "go"
        rename_i r xr yr Hr r0 r1 xr0 yr0 yr1 sr pr
        refine lcr1_fun (fun v => match v with | .int i => some (.int (i + 1)) | _ => none) (by omega) (by omega) ?_ ?_
        · intro i hi H1 s1 R kR
          have kR' : ∀ H2, Same H1 H2 → R (some (.int ((i : Int) + 1))) H2 := kR
          clear kR
          show "go"
          exact kR' _ (Same.refl _)
        intro D2 HD2 f2 t2 h2
        rw [rng_up] at h2
        have l4 : (nI ((List.range r.toNat).map (· + 1))).length ≤ 5000 := by rw [List.length_map, List.length_map, List.length_range]; omega
        have hX2 := t2 _ _ (sr _ _ nX hX9)
        show "go"
        rename_i HZ sZ hZ
        rw [← List.map_append] at hZ
        refine k X0 (xs ++ (List.range r.toNat).map (· + 1)) xr yr HZ X1 (fun z mz => ?_) ?_ hZ xr0 yr0 yr1 (SBq X1 ((sH9.trans sr).trans (SB.of t2)) sZ) (sZ _ _ (fun z => nX z.symm) (t2 _ _ pr))
        · rcases List.mem_append.mp mz with mz | mz
          · exact hx z mz
          · obtain ⟨w, hw, rfl⟩ := List.mem_map.mp mz
            have := List.mem_range.mp hw
            omega
        · rw [List.length_append, List.length_map, List.length_range]
          omega
      · show "go"
        exact k X0 xs x9 y9 H9 X1 hx (by omega) hX9 x90 y90 y91 sH9 p9
/-! #### _law_prime: 0 at, 1 down, 2 one, 3 by -/
def sp__law_prime (T : Txt K mg) : Sp := fun vs H Q _ => ∃ (n : Nat), vs = [.int (n : Int)] ∧ (2 ≤ n) ∧ (n ≤ 1000) ∧ ∀ (p : Nat) H', Same H H' → Pr p → p ≤ 1000 → Q (.int (p : Int)) H'
theorem len__law_prime {vs H Q E} (T : Txt K mg) (h : sp__law_prime T vs H Q E) : vs.length = 1 := by obtain ⟨n, rfl, _⟩ := h; rfl
theorem use__law_prime {T : Txt K mg} {H : Hp} {Q : VK} {E : XK} {n : Nat} (h1 : 2 ≤ n) (h2 : n ≤ 1000) (k : ∀ (p : Nat) H', Same H H' → Pr p → p ≤ 1000 → Q (.int (p : Int)) H') : sp__law_prime T [.int (n : Int)] H Q E := ⟨n, rfl, h1, h2, k⟩
local macro_rules | `(tactic| show "own") => `(tactic| (((with_reducible refine' use__law_prime ?s1 ?s2 ?nxt); (case s1 => (omega)); (case s2 => (omega)); (case' nxt => skip)); intro _ _ _ _ _))

theorem ok__law_prime (T : Txt K mg) : FnOk P w K mg base CX0 1 T.f__law_prime T.fd__law_prime ["at"] (sp__law_prime T) := by
  refine T.F__law_prime.ok sc__law_prime (fun vs H Q E h => ?_) (fun cdv A outer s H vs Q E hr h => ?_)
  · exact len__law_prime T h
  · refine ⟨_, (pss_cons (ps_for PassesOwn.never rfl (pi_range1 rfl T.z_range (pa_cons (pe_op op_subU (pv 0) pe_int) pa_nil)) (pg_name (i := 1) sc__law_prime.nd rfl (Or.inl rfl)) (pss_cons (ps_set (i := 2) sc__law_prime.nd rfl (Or.inr rfl) (pe_op op_subU (pv 0) (pv 1)))
    (pss_one (ps_if (pt_cmpR (op_eqK (K := K) rfl hr.units) (pe_lc (own := [("by", 3)]) rfl sc__law_prime.nd (pi_range2 rfl T.z_range (pa_cons pe_int (pa_cons pe_int pa_nil))) (blkOk_by (own := [("by", 3)]) (N := N__law_prime) (sc := defScope s__law_prime) (by first | decide +kernel | rfl)) (fun _ _ _ _ _ => (pg_name (i := 3) sc__law_prime.nd rfl (by first | exact Or.inl rfl | exact Or.inr rfl))) (fun _ _ _ _ _ => (pts_one (PW.pt (pw_and (pt_cmpR op_ltU (pv 3) (pv 2) (nomark _)) (pw_and1 (pt_cmpR (op_eqK (K := K) rfl hr.units) (pe_op op_modU (pe_callTy c_int1 (by rfl) T.z_int (by decide +kernel) (pa_cons (pv 2) pa_nil)) (pv 3)) pe_int (nomark _))))))) (fun _ _ _ _ _ => (pv 3))) (pe_lst pa_nil) (nomark _)) (pss_one (ps_ret (pv 2))) pss_nil))))
    (pss_one (ps_ret pe_int))), ?_⟩
    clear hr
    obtain ⟨n, rfl, h1, h2, k⟩ := h
    refine st_eq (σ' := [some _, none, none, none]) rfl ?_
    have sn : Sz 20 (n : Int) := Sz.mk (by omega)
    show "go"
    refine f_rng1 (fun i σ' H' => Same H H' ∧ ∃ v1 v2, σ' = [some (.int (n : Int)), v1, v2, none]) (by omega) (by omega) ⟨Same.refl _, _, _, rfl⟩ ?_ ?_
    · rintro i σ' H' hi ⟨s6, v1, v2, rfl⟩
      obtain ⟨o, ho⟩ : ∃ o : Nat, (n : Int) - (i : Int) = (o : Int) := ⟨n - i, by omega⟩
      have so : Sz 20 (o : Int) := Sz.mk (by omega)
      have o2 : 2 ≤ o ∧ o ≤ 1000 := by omega
      show "go"
      rw [ho]
      refine lcr2_fun (trialF o) (by omega) (by omega) ?_ ?_
      · intro j hj H1 s8 R kR
        obtain ⟨b, hb⟩ : ∃ b : Nat, (2 : Int) + (j : Int) = (b : Int) := ⟨2 + j, by omega⟩
        rw [hb] at kR ⊢
        have sb : Sz 20 (b : Int) := Sz.mk (by omega)
        have kR' : ∀ H2, Same H1 H2 → R (if (b : Int) < (o : Int) ∧ (o : Int) % (b : Int) = 0 then some (.int (b : Int)) else none) H2 := kR
        clear kR
        show "go"
        by_cases e1 : (b : Int) < (o : Int)
        · refine and_y e1 ?_
          show "go"
          by_cases e2 : (o : Int) % (b : Int) = 0
          · rw [if_pos ⟨e1, e2⟩] at kR'
            rw [decide_eq_true e2]
            refine lce_T ?_
            show "go"
            exact kR' _ (Same.refl _)
          · rw [if_neg (fun q => e2 q.2)] at kR'
            rw [decide_eq_false e2]
            refine lce_F ?_
            exact kR' _ (Same.refl _)
        · rw [if_neg (fun q => e1 q.1)] at kR'
          refine and_n e1 ?_
          show "go"
          exact kR' _ (Same.refl _)
      intro G HG fG tG hG
      rw [trial_fm] at hG
      show "go"
      refine ifs_2 (fun e => ?_) (fun e => ?_)
      · show "go"
        exact k o _ (by show "same") (trial_pr o2.1 o2.2 e) o2.2
      · show "go"
        exact ⟨by show "same", _, _, rfl⟩
    · rintro σ' H' ⟨s6, v1, v2, rfl⟩
      show "go"
      exact k 2 H' s6 (trial_pr (by omega) (by omega) (by decide)) (by omega)
/-! #### _law_parts: 0 well, 1 most, 2 limit, 3 parts, 4 number, 5 many, 6 plain, 7 turn, 8 prime, 9 high, 10 power, 11 times, 12 again, 13 known, 14 one, 15 other -/
def sp__law_parts (T : Txt K mg) : Sp := fun vs H Q _ => ∃ (p : Addr) (x y most limit : Int), vs = [.ref p, .int most, .int limit] ∧ (H p = some (.lst [.int x, .int y])) ∧ (0 ≤ x) ∧ (0 ≤ y) ∧ (y < 10 ^ 12) ∧ (1 ≤ most) ∧ (most ≤ 4000) ∧ (1 ≤ limit) ∧ (limit ≤ 10 ^ 12) ∧ ∀ P qs x' y' H', Fr H P → Parts qs → (numP qs : Int) ≤ limit → (manyP qs : Int) ≤ most → Prs H' P qs → 0 ≤ x' → 0 ≤ y' → y' < 10 ^ 12 → SB p H H' → H' p = some (.lst [.int x', .int y']) → Q (.ref P) H'
theorem len__law_parts {vs H Q E} (T : Txt K mg) (h : sp__law_parts T vs H Q E) : vs.length = 3 := by obtain ⟨p, x, y, most, limit, rfl, _⟩ := h; rfl
theorem use__law_parts {T : Txt K mg} {H : Hp} {Q : VK} {E : XK} {p : Addr} {x y most limit : Int} (h1 : H p = some (.lst [.int x, .int y])) (x0 : 0 ≤ x) (y0 : 0 ≤ y) (y1 : y < 10 ^ 12) (m1 : 1 ≤ most) (m2 : most ≤ 4000) (l1 : 1 ≤ limit) (l2 : limit ≤ 10 ^ 12) (k : ∀ P qs x' y' H', Fr H P → Parts qs → (numP qs : Int) ≤ limit → (manyP qs : Int) ≤ most → Prs H' P qs → 0 ≤ x' → 0 ≤ y' → y' < 10 ^ 12 → SB p H H' → H' p = some (.lst [.int x', .int y']) → Q (.ref P) H') : sp__law_parts T [.ref p, .int most, .int limit] H Q E := ⟨p, x, y, most, limit, rfl, h1, x0, y0, y1, m1, m2, l1, l2, k⟩
local macro_rules | `(tactic| show "own") => `(tactic| (((with_reducible refine' use__law_parts ?s1 ?s2 ?s3 ?s4 ?s5 ?s6 ?s7 ?s8 ?nxt); (case s1 => (show "hp")); (case s2 => (assumption)); (case s3 => (assumption)); (case s4 => (assumption)); (case s5 => (omega)); (case s6 => (omega)); (case s7 => (omega)); (case s8 => (omega)); (case' nxt => skip)); intro _ _ _ _ _ _ _ _ _ _ _ _ _ _ _))

theorem ok__law_parts (T : Txt K mg) : FnOk P w K mg base CX0 2 T.f__law_parts T.fd__law_parts ["well", "most", "limit"] (sp__law_parts T) := by
  have G__law_dip : FnOk P w K mg base CX0 1 T.f__law_dip T.fd__law_dip ["well", "many"] (sp__law_dip T) := ok__law_dip T
  have G__law_prime : FnOk P w K mg base CX0 1 T.f__law_prime T.fd__law_prime ["at"] (sp__law_prime T) := ok__law_prime T
  refine T.F__law_parts.ok sc__law_parts (fun vs H Q E h => ?_) (fun cdv A outer s H vs Q E hr h => ?_)
  · exact len__law_parts T h
  · refine ⟨_, (pss_cons (ps_set (i := 3) sc__law_parts.nd rfl (Or.inl rfl) (pe_lst pa_nil))
    (pss_cons (ps_set (i := 4) sc__law_parts.nd rfl (Or.inl rfl) pe_int)
    (pss_cons (ps_set (i := 5) sc__law_parts.nd rfl (Or.inl rfl) pe_int)
    (pss_cons (ps_set (i := 6) sc__law_parts.nd rfl (Or.inl rfl) (pe_call G__law_dip (hr.mono (by decide)) rfl T.g__law_dip T.F__law_dip.kp T.b__law_dip .nil pass0 (pa_cons (pv 0) (pa_cons pe_int pa_nil))))
    (pss_cons (ps_for PassesOwn.never rfl (pi_range1 rfl T.z_range (pa_cons (pe_call G__law_dip (hr.mono (by decide)) rfl T.g__law_dip T.F__law_dip.kp T.b__law_dip .nil pass0 (pa_cons (pv 0) (pa_cons (pe_ix (ix_seqK (K := K) rfl) (pe_lst (pa_cons pe_int (pa_cons pe_int pa_nil))) (pe_callTy c_int1 (by rfl) T.z_int (by decide +kernel) (pa_cons (pe_cmpR (op_eqK (K := K) rfl hr.units) (pv 6) pe_int (nomark _)) pa_nil)) (fun _ _ => rfl)) pa_nil))) pa_nil)) (pg_name (i := 7) sc__law_parts.nd rfl (Or.inl rfl)) (pss_cons (ps_set (i := 8) sc__law_parts.nd rfl (Or.inl rfl) (pe_call G__law_prime (hr.mono (by decide)) rfl T.g__law_prime T.F__law_prime.kp T.b__law_prime .nil pass0 (pa_cons (pe_op (op_addK (K := K) rfl) pe_int (pe_call G__law_dip (hr.mono (by decide)) rfl T.g__law_dip T.F__law_dip.kp T.b__law_dip .nil pass0 (pa_cons (pv 0) (pa_cons (pe_ix (ix_seqK (K := K) rfl) (pe_lst (pa_cons pe_int (pa_cons pe_int (pa_cons pe_int (pa_cons pe_int pa_nil))))) (pe_call G__law_dip (hr.mono (by decide)) rfl T.g__law_dip T.F__law_dip.kp T.b__law_dip .nil pass0 (pa_cons (pv 0) (pa_cons pe_int pa_nil))) (fun _ _ => rfl)) pa_nil)))) pa_nil)))
    (pss_cons (ps_set (i := 9) sc__law_parts.nd rfl (Or.inl rfl) (pe_lst (pa_cons pe_int (pa_cons pe_int (pa_cons pe_int (pa_cons pe_int (pa_cons pe_int (pa_cons pe_int (pa_cons pe_int (pa_cons (pe_op (op_addK (K := K) rfl) pe_int (pe_call G__law_dip (hr.mono (by decide)) rfl T.g__law_dip T.F__law_dip.kp T.b__law_dip .nil pass0 (pa_cons (pv 0) (pa_cons pe_int pa_nil)))) (pa_cons (pe_op (op_addK (K := K) rfl) pe_int (pe_call G__law_dip (hr.mono (by decide)) rfl T.g__law_dip T.F__law_dip.kp T.b__law_dip .nil pass0 (pa_cons (pv 0) (pa_cons pe_int pa_nil)))) pa_nil)))))))))))
    (pss_cons (ps_set (i := 10) sc__law_parts.nd rfl (Or.inl rfl) (pe_ix (ix_seqK (K := K) rfl) (pv 9) (pe_call G__law_dip (hr.mono (by decide)) rfl T.g__law_dip T.F__law_dip.kp T.b__law_dip .nil pass0 (pa_cons (pv 0) (pa_cons pe_int pa_nil))) (fun _ _ => rfl)))
    (pss_cons (ps_if (pt_cmpR (op_eqK (K := K) rfl hr.units) (pv 6) pe_int (nomark _)) (pss_one (ps_par (i := 8) (j := 10) (by rfl) sc__law_parts.nd rfl rfl (by decide) rfl rfl (pa_cons (pe_ix (ix_seqK (K := K) rfl) (pe_lst (pa_cons pe_int (pa_cons pe_int (pa_cons pe_int (pa_cons pe_int (pa_cons pe_int (pa_cons pe_int (pa_cons pe_int (pa_cons pe_int (pa_cons pe_int pa_nil)))))))))) (pv 7) (fun _ _ => rfl)) (pa_cons pe_int pa_nil)) (by rfl))) pss_nil)
    (pss_cons (ps_set (i := 11) sc__law_parts.nd rfl (Or.inl rfl) pe_int)
    (pss_cons (ps_for PassesOwn.never rfl (pi_range1 rfl T.z_range (pa_cons (pv 10) pa_nil)) (pg_name (i := 12) sc__law_parts.nd rfl (Or.inl rfl)) (pss_one (ps_set (i := 11) sc__law_parts.nd rfl (Or.inl rfl) (pe_op op_mulU (pv 11) (pv 8)))))
    (pss_cons (ps_setLc (i := 13) (own := [("one", 14), ("other", 15)]) rfl sc__law_parts.nd rfl rfl (sw_true rfl rfl rfl (by decide +kernel)) (pi_listK (K := K) rfl (pv 3)) (blkOk_by (own := [("one", 14), ("other", 15)]) (N := N__law_parts) (sc := defScope s__law_parts) (by first | decide +kernel | rfl)) (fun _ _ _ _ _ => (pg_tlK (K := K) (n := 2) rfl rfl (pgs_cons (pg_name (i := 14) sc__law_parts.nd rfl (by first | exact Or.inl rfl | exact Or.inr rfl)) (pgs_cons (pg_name (i := 15) sc__law_parts.nd rfl (by first | exact Or.inl rfl | exact Or.inr rfl)) pgs_nil)))) (fun _ _ _ _ _ => pts_nil) (fun _ _ _ _ _ => (pv 14)))
    (pss_one (ps_if (PW.pt (pw_and (pt_cmpR (op_ninK (K := K) rfl) (pv 8) (pv 13) (by rfl)) (pw_and (pt_cmpR op_leU (pe_op op_mulU (pv 4) (pv 11)) (pv 2) (nomark _)) (pw_and1 (pt_cmpR op_leU (pe_op op_mulU (pv 5) (pe_op (op_addK (K := K) rfl) (pv 10) pe_int)) (pv 1) (nomark _)))))) (pss_cons (ps_expr (pe_bmK (K := K) rfl PySem.F.plainAttrs_list PySem.F.slot_list_append PySem.F.type_list_append mt_append (pv 3) (pa_cons (pe_tup (pa_cons (pv 8) (pa_cons (pv 10) pa_nil))) pa_nil)))
    (pss_cons (ps_set (i := 4) sc__law_parts.nd rfl (Or.inl rfl) (pe_op op_mulU (pv 4) (pv 11)))
    (pss_one (ps_set (i := 5) sc__law_parts.nd rfl (Or.inl rfl) (pe_op op_mulU (pv 5) (pe_op (op_addK (K := K) rfl) (pv 10) pe_int)))))) pss_nil))))))))))
    (pss_one (ps_ret (pv 3)))))))), ?_⟩
    clear hr
    obtain ⟨p, x, y, most, limit, rfl, h1, x0, y0, y1, m1, m2, l1, l2, k⟩ := h
    refine st_eq (σ' := [some _, some _, some _, none, none, none, none, none, none, none, none, none, none, none, none, none]) rfl ?_
    have sli : Sz 60 limit := Sz.mk (by omega)
    have smo : Sz 60 most := Sz.mk (by omega)
    show "go"
    rename_i P HP P1 P2 P3 pl xpl ypl Hpl pl0 pl1 xpl0 ypl0 ypl1 spl ppl L HL L1 L2 L3
    refine' ix_all (P := fun v => ∃ m : Int, v = .int m ∧ 5 ≤ m ∧ m ≤ 10) (by show "hp") (by split <;> omega) (by simp only [List.length_cons, List.length_nil]; split <;> omega) (fun v hv => ?_) ?_
    · simp only [List.mem_cons, List.not_mem_nil, or_false] at hv
      rcases hv with rfl | rfl <;> exact ⟨_, rfl, by omega, by omega⟩
    rintro _ ⟨tu, rfl, tu1, tu2⟩
    have stu : Sz 10 tu := Sz.mk (by omega)
    show "go"
    rename_i t xt yt Ht t0 t1 xt0 yt0 yt1 st pt
    have hPp : P ≠ p := ne_new P1 h1
    have hPt : Ht P = some (.lst ([] : List V)) := by show "hp"
    refine f_rng1 (fun i σ' H' => ∃ (qs : List (Nat × Nat)) (x y : Int) (v8 v9 v10 v11 v12 v13 v7 : Option V), σ' = [some (.ref p), some (.int most), some (.int limit), some (.ref P), some (.int ((numP qs : Nat) : Int)), some (.int ((manyP qs : Nat) : Int)), some (.int pl), v7, v8, v9, v10, v11, v12, v13, none, none] ∧ Parts qs ∧ (numP qs : Int) ≤ limit ∧ (manyP qs : Int) ≤ most ∧ qs.length ≤ i ∧ Prs H' P qs ∧ 0 ≤ x ∧ 0 ≤ y ∧ y < 10 ^ 12 ∧ SB p H H' ∧ H' p = some (.lst [.int x, .int y])) (by omega) (by omega) ⟨[], xt, yt, _, _, _, _, _, _, _, rfl, Parts.nil, l1, m1, Nat.le_refl _, ⟨[], hPt, rfl, fun i a q e => by cases e⟩, xt0, yt0, yt1, by show "sb", pt⟩ ?_ ?_
    · rintro i σ' H' hi ⟨qs, x2, y2, v8, v9, v10, v11, v12, v13, v7, rfl, hqs, hlim, hmost, hql, hP, x20, y20, y21, s2, p2⟩
      have qpos := hqs.pos
      show "go"
      refine' ix_all (P := fun v => ∃ m : Int, v = .int m ∧ 5 ≤ m ∧ m ≤ 999) (by show "hp") (by omega) (by simp only [List.length_cons, List.length_nil]; omega) (fun v hv => ?_) ?_
      · simp only [List.mem_cons, List.not_mem_nil, or_false] at hv
        rcases hv with rfl | rfl | rfl | rfl <;> exact ⟨_, rfl, by omega, by omega⟩
      rintro _ ⟨b, rfl, b1, b2⟩
      have sbm : Sz 10 b := Sz.mk (by omega)
      show "go"
      rename_i cl xcl ycl Hcl cl0 cl1 xcl0 ycl0 ycl1 scl pcl
      obtain ⟨c, rfl⟩ : ∃ c : Nat, cl = (c : Int) := ⟨cl.toNat, by omega⟩
      rw [show (2 : Int) + (c : Int) = ((2 + c : Nat) : Int) by push_cast; rfl]
      show "go"
      rename_i pr Hpr spr hpr hpr2 d8 x8 y8 H8 d80 d81 x80 y80 y81 s8 p8 d9 x9 y9 H9 d90 d91 x90 y90 y91 s9 p9 G HG G1 G2 G3 w4 x4 y4 HF w40 w41 x40 y40 y41 s4 p4
      refine' ix_all (P := fun v => ∃ m : Int, v = .int m ∧ 1 ≤ m ∧ m ≤ 39) (by show "hp") (by omega) (by simp only [List.length_cons, List.length_nil]; omega) (fun v hv => ?_) ?_
      · simp only [List.mem_cons, List.not_mem_nil, or_false] at hv
        rcases hv with rfl | rfl | rfl | rfl | rfl | rfl | rfl | rfl | rfl <;> exact ⟨_, rfl, by omega, by omega⟩
      rintro _ ⟨pwz, rfl, pwz1, pwz2⟩
      obtain ⟨pw, rfl⟩ : ∃ pw : Nat, pwz = (pw : Int) := ⟨pwz.toNat, by omega⟩
      have hpw1 : 1 ≤ pw := by omega
      have hpw2 : pw ≤ 39 := by omega
      have hP4 : Prs HF P qs := by show "prs"
      show "go"
      refine ifs_2 (fun e0 => ?_) (fun e0 => ?_)
      · show "go"
        refine' ix_all (P := fun v => ∃ m : Nat, v = .int (m : Int) ∧ Pr m ∧ m ≤ 1000) (by show "hp") (by omega) (by simp only [List.length_cons, List.length_nil]; omega) pr9 ?_
        rintro _ ⟨pr, rfl, hpr, hpr2⟩
        show "go"
        rename_i W HF W1 W2 W3
        have hpw1 : 1 ≤ 1 := by decide
        have hpw2 : 1 ≤ 39 := by decide
        show ForR1 _ _ _ [some (.ref p), some (.int most), some (.int limit), some (.ref P), some (.int ((numP qs : Nat) : Int)), some (.int ((manyP qs : Nat) : Int)), some (.int pl), some (.int ((i : Nat) : Int)), some (.int ((pr : Nat) : Int)), some (.ref G), some (.int ((1 : Nat) : Int)), some (.int 1), v12, v13, none, none] [.int ((1 : Nat) : Int)] _
        have sF : SB p H HF := by show "sb"
        have pF : HF p = some (.lst [.int x4, .int y4]) := by show "hp"
        have hPF : Prs HF P qs := by show "prs"
        refine f_rng1 (fun j σ' H' => H' = HF ∧ ∃ v12, σ' = [some (.ref p), some (.int most), some (.int limit), some (.ref P), some (.int ((numP qs : Nat) : Int)), some (.int ((manyP qs : Nat) : Int)), some (.int pl), some (.int ((i : Nat) : Int)), some (.int ((pr : Nat) : Int)), some (.ref G), some (.int ((1 : Nat) : Int)), some (.int (((pr ^ j : Nat) : Nat) : Int)), v12, v13, none, none]) (by omega) (by omega) ⟨rfl, _, rfl⟩ ?_ ?_
        · rintro j σ' H' hj ⟨rfl, v12, rfl⟩
          have st := pw_sz hpr2 (show j ≤ 39 by omega)
          have sp : Sz 12 (pr : Int) := Sz.mk (by omega)
          show "go"
          exact ⟨rfl, _, by rw [Nat.pow_succ]; push_cast; rfl⟩
        rintro σ' HF ⟨rfl, v12, rfl⟩
        rw [show ((1 : Nat) : Int).toNat = 1 from rfl]
        have st := pw_sz hpr2 hpw2
        have pw1 : 1 ≤ pr ^ 1 := Nat.pow_pos (by have := hpr.1; omega)
        generalize hT : pr ^ 1 = times at *
        show "go"
        obtain ⟨as, hP1, hP2, hP3⟩ := hPF.ob
        refine lc_map (qs.map fun q => V.int (q.1 : Int)) (SqL.of hP1) (by rw [List.length_map, List.length_map, hP2]) (by rw [List.length_map]; omega) ?_ ?_
        · intro j x y hx hy H1 s1 R kR
          rw [List.getElem?_map] at hx hy
          obtain ⟨a, ha, rfl⟩ := Option.map_eq_some_iff.mp hx
          obtain ⟨q, hq, rfl⟩ := Option.map_eq_some_iff.mp hy
          have hT1 := s1 _ _ (hP3 j a q ha hq)
          refine g_lctt (σ' := [some (.ref p), some (.int most), some (.int limit), some (.ref P), some (.int ((numP qs : Nat) : Int)), some (.int ((manyP qs : Nat) : Int)), some (.int pl), some (.int ((i : Nat) : Int)), some (.int ((pr : Nat) : Int)), some (.ref G), some (.int ((1 : Nat) : Int)), some (.int ((times : Nat) : Int)), v12, v13, none, none]) rfl ?_
          show "go"
          exact kR _ (Same.refl _)
        intro D HD fD tD hD
        have hD2 : HD D = some (.lst ((qs.map Prod.fst).map fun d : Nat => V.int (d : Int))) := by rw [hD, List.map_map]; rfl
        show "go"
        refine o_ninN hD2 ?_
        show "go"
        by_cases m1 : pr ∈ qs.map Prod.fst
        · refine and_ny m1 ?_
          show "go"
          exact ⟨qs, x4, y4, _, _, _, _, _, _, _, rfl, hqs, hlim, hmost, by omega, hPF.same tD, x40, y40, y41, sF.trans (SB.of tD), tD _ _ pF⟩
        · refine and_nn m1 ?_
          have sl : Sz 60 ((numP qs : Nat) : Int) := Sz.mk (by omega)
          have sm : Sz 60 ((manyP qs : Nat) : Int) := Sz.mk (by omega)
          have sw : Sz 10 ((1 : Nat) : Int) := Sz.mk (by omega)
          show "go"
          refine and_2 (fun e1 => ?_) (fun e1 => ?_)
          · show "go"
            refine ifs_2 (fun e2 => ?_) (fun e2 => ?_)
            · show "go"
              rename_i A HA A1 A2 A3 HB sB hB
              have hPA : HA P = some (.lst (as.map V.ref)) := by show "hp"
              exact ⟨qs ++ [(pr, 1)], x4, y4, _, _, _, _, _, _, _, by rw [numP_snoc, manyP_snoc]; simp only [hT]; push_cast; rfl, hqs.snoc hpr hpw1 m1, by rw [numP_snoc]; simp only [hT]; push_cast; exact e1, by rw [manyP_snoc]; push_cast; exact e2, by rw [List.length_append]; simp only [List.length_singleton]; omega, Prs.snoc hP2 (fun i a q z1 z2 => A2 _ _ (tD _ _ (hP3 i a q z1 z2))) A3 sB hPA hB, x40, y40, y41, SBq P1 (sF.trans (SB.of (tD.trans A2))) sB, sB _ _ (fun e => hPp e.symm) (A2 _ _ (tD _ _ pF))⟩
            · show "go"
              exact ⟨qs, x4, y4, _, _, _, _, _, _, _, rfl, hqs, hlim, hmost, by omega, hPF.same tD, x40, y40, y41, sF.trans (SB.of tD), tD _ _ pF⟩
          · show "go"
            exact ⟨qs, x4, y4, _, _, _, _, _, _, _, rfl, hqs, hlim, hmost, by omega, hPF.same tD, x40, y40, y41, sF.trans (SB.of tD), tD _ _ pF⟩
    
      · show "go"
        have sF : SB p H HF := by show "sb"
        have pF : HF p = some (.lst [.int x4, .int y4]) := by show "hp"
        have hPF : Prs HF P qs := by show "prs"
        refine f_rng1 (fun j σ' H' => H' = HF ∧ ∃ v12, σ' = [some (.ref p), some (.int most), some (.int limit), some (.ref P), some (.int ((numP qs : Nat) : Int)), some (.int ((manyP qs : Nat) : Int)), some (.int pl), some (.int ((i : Nat) : Int)), some (.int ((pr : Nat) : Int)), some (.ref G), some (.int ((pw : Nat) : Int)), some (.int (((pr ^ j : Nat) : Nat) : Int)), v12, v13, none, none]) (by omega) (by omega) ⟨rfl, _, rfl⟩ ?_ ?_
        · rintro j σ' H' hj ⟨rfl, v12, rfl⟩
          have st := pw_sz hpr2 (show j ≤ 39 by omega)
          have sp : Sz 12 (pr : Int) := Sz.mk (by omega)
          show "go"
          exact ⟨rfl, _, by rw [Nat.pow_succ]; push_cast; rfl⟩
        rintro σ' HF ⟨rfl, v12, rfl⟩
        rw [show ((pw : Nat) : Int).toNat = pw from rfl]
        have st := pw_sz hpr2 hpw2
        have pw1 : 1 ≤ pr ^ pw := Nat.pow_pos (by have := hpr.1; omega)
        generalize hT : pr ^ pw = times at *
        show "go"
        obtain ⟨as, hP1, hP2, hP3⟩ := hPF.ob
        refine lc_map (qs.map fun q => V.int (q.1 : Int)) (SqL.of hP1) (by rw [List.length_map, List.length_map, hP2]) (by rw [List.length_map]; omega) ?_ ?_
        · intro j x y hx hy H1 s1 R kR
          rw [List.getElem?_map] at hx hy
          obtain ⟨a, ha, rfl⟩ := Option.map_eq_some_iff.mp hx
          obtain ⟨q, hq, rfl⟩ := Option.map_eq_some_iff.mp hy
          have hT1 := s1 _ _ (hP3 j a q ha hq)
          refine g_lctt (σ' := [some (.ref p), some (.int most), some (.int limit), some (.ref P), some (.int ((numP qs : Nat) : Int)), some (.int ((manyP qs : Nat) : Int)), some (.int pl), some (.int ((i : Nat) : Int)), some (.int ((pr : Nat) : Int)), some (.ref G), some (.int ((pw : Nat) : Int)), some (.int ((times : Nat) : Int)), v12, v13, none, none]) rfl ?_
          show "go"
          exact kR _ (Same.refl _)
        intro D HD fD tD hD
        have hD2 : HD D = some (.lst ((qs.map Prod.fst).map fun d : Nat => V.int (d : Int))) := by rw [hD, List.map_map]; rfl
        show "go"
        refine o_ninN hD2 ?_
        show "go"
        by_cases m1 : pr ∈ qs.map Prod.fst
        · refine and_ny m1 ?_
          show "go"
          exact ⟨qs, x4, y4, _, _, _, _, _, _, _, rfl, hqs, hlim, hmost, by omega, hPF.same tD, x40, y40, y41, sF.trans (SB.of tD), tD _ _ pF⟩
        · refine and_nn m1 ?_
          have sl : Sz 60 ((numP qs : Nat) : Int) := Sz.mk (by omega)
          have sm : Sz 60 ((manyP qs : Nat) : Int) := Sz.mk (by omega)
          have sw : Sz 10 ((pw : Nat) : Int) := Sz.mk (by omega)
          show "go"
          refine and_2 (fun e1 => ?_) (fun e1 => ?_)
          · show "go"
            refine ifs_2 (fun e2 => ?_) (fun e2 => ?_)
            · show "go"
              rename_i A HA A1 A2 A3 HB sB hB
              have hPA : HA P = some (.lst (as.map V.ref)) := by show "hp"
              exact ⟨qs ++ [(pr, pw)], x4, y4, _, _, _, _, _, _, _, by rw [numP_snoc, manyP_snoc]; simp only [hT]; push_cast; rfl, hqs.snoc hpr hpw1 m1, by rw [numP_snoc]; simp only [hT]; push_cast; exact e1, by rw [manyP_snoc]; push_cast; exact e2, by rw [List.length_append]; simp only [List.length_singleton]; omega, Prs.snoc hP2 (fun i a q z1 z2 => A2 _ _ (tD _ _ (hP3 i a q z1 z2))) A3 sB hPA hB, x40, y40, y41, SBq P1 (sF.trans (SB.of (tD.trans A2))) sB, sB _ _ (fun e => hPp e.symm) (A2 _ _ (tD _ _ pF))⟩
            · show "go"
              exact ⟨qs, x4, y4, _, _, _, _, _, _, _, rfl, hqs, hlim, hmost, by omega, hPF.same tD, x40, y40, y41, sF.trans (SB.of tD), tD _ _ pF⟩
          · show "go"
            exact ⟨qs, x4, y4, _, _, _, _, _, _, _, rfl, hqs, hlim, hmost, by omega, hPF.same tD, x40, y40, y41, sF.trans (SB.of tD), tD _ _ pF⟩
    
    · rintro σ' H' ⟨qs, x2, y2, v8, v9, v10, v11, v12, v13, v7, rfl, hqs, hlim, hmost, hql, hP, x20, y20, y21, s2, p2⟩
      show "go"
      exact k P qs x2 y2 H' P1 hqs hlim hmost hP x20 y20 y21 s2 p2
/-! #### _law_set: 0 well, 1 most, 2 limit, 3 run, 4 parts, 5 divisors, 6 chosen -/
def sp__law_set (T : Txt K mg) : Sp := fun vs H Q _ => ∃ (p : Addr) (x y most limit run : Int), vs = [.ref p, .int most, .int limit, .int run] ∧ (H p = some (.lst [.int x, .int y])) ∧ (0 ≤ x) ∧ (0 ≤ y) ∧ (y < 10 ^ 12) ∧ (1 ≤ most) ∧ (most ≤ 4000) ∧ (1 ≤ limit) ∧ (limit ≤ 10 ^ 12) ∧ (0 ≤ run) ∧ (run ≤ 1000) ∧ ∀ R qs n ds cs xs x' y' H', Fr H R → LSet H' R qs ds cs xs → LOk most.toNat limit.toNat (run.toNat + 6) n qs ds cs xs → LFr H H' R → 0 ≤ x' → 0 ≤ y' → y' < 10 ^ 12 → SB p H H' → H' p = some (.lst [.int x', .int y']) → Q (.ref R) H'
theorem len__law_set {vs H Q E} (T : Txt K mg) (h : sp__law_set T vs H Q E) : vs.length = 4 := by obtain ⟨p, x, y, most, limit, run, rfl, _⟩ := h; rfl
theorem use__law_set {T : Txt K mg} {H : Hp} {Q : VK} {E : XK} {p : Addr} {x y most limit run : Int} (h1 : H p = some (.lst [.int x, .int y])) (x0 : 0 ≤ x) (y0 : 0 ≤ y) (y1 : y < 10 ^ 12) (m1 : 1 ≤ most) (m2 : most ≤ 4000) (l1 : 1 ≤ limit) (l2 : limit ≤ 10 ^ 12) (r0 : 0 ≤ run) (r1 : run ≤ 1000) (k : ∀ R qs n ds cs xs x' y' H', Fr H R → LSet H' R qs ds cs xs → LOk most.toNat limit.toNat (run.toNat + 6) n qs ds cs xs → LFr H H' R → 0 ≤ x' → 0 ≤ y' → y' < 10 ^ 12 → SB p H H' → H' p = some (.lst [.int x', .int y']) → Q (.ref R) H') : sp__law_set T [.ref p, .int most, .int limit, .int run] H Q E := ⟨p, x, y, most, limit, run, rfl, h1, x0, y0, y1, m1, m2, l1, l2, r0, r1, k⟩
local macro_rules | `(tactic| show "own") => `(tactic| (((with_reducible refine' use__law_set ?s1 ?s2 ?s3 ?s4 ?s5 ?s6 ?s7 ?s8 ?s9 ?s10 ?nxt); (case s1 => (show "hp")); (case s2 => (assumption)); (case s3 => (assumption)); (case s4 => (assumption)); (case s5 => (omega)); (case s6 => (omega)); (case s7 => (omega)); (case s8 => (omega)); (case s9 => (omega)); (case s10 => (omega)); (case' nxt => skip)); intro _ _ _ _ _ _ _ _ _ _ _ _ _ _ _ _ _ _))

theorem ok__law_set (T : Txt K mg) : FnOk P w K mg base CX0 3 T.f__law_set T.fd__law_set ["well", "most", "limit", "run"] (sp__law_set T) := by
  have G__law_chosen : FnOk P w K mg base CX0 2 T.f__law_chosen T.fd__law_chosen ["well", "divisors"] (sp__law_chosen T) := ok__law_chosen T
  have G__law_divisors : FnOk P w K mg base CX0 1 T.f__law_divisors T.fd__law_divisors ["parts"] (sp__law_divisors T) := ok__law_divisors T
  have G__law_extra : FnOk P w K mg base CX0 2 T.f__law_extra T.fd__law_extra ["well", "divisors", "run"] (sp__law_extra T) := ok__law_extra T
  have G__law_parts : FnOk P w K mg base CX0 2 T.f__law_parts T.fd__law_parts ["well", "most", "limit"] (sp__law_parts T) := ok__law_parts T
  refine T.F__law_set.ok sc__law_set (fun vs H Q E h => ?_) (fun cdv A outer s H vs Q E hr h => ?_)
  · exact len__law_set T h
  · refine ⟨_, (pss_cons (ps_set (i := 4) sc__law_set.nd rfl (Or.inl rfl) (pe_call G__law_parts (hr.mono (by decide)) rfl T.g__law_parts T.F__law_parts.kp T.b__law_parts .nil pass0 (pa_cons (pv 0) (pa_cons (pv 1) (pa_cons (pv 2) pa_nil)))))
    (pss_cons (ps_set (i := 5) sc__law_set.nd rfl (Or.inl rfl) (pe_call G__law_divisors (hr.mono (by decide)) rfl T.g__law_divisors T.F__law_divisors.kp T.b__law_divisors .nil pass0 (pa_cons (pv 4) pa_nil)))
    (pss_cons (ps_set (i := 6) sc__law_set.nd rfl (Or.inl rfl) (pe_call G__law_chosen (hr.mono (by decide)) rfl T.g__law_chosen T.F__law_chosen.kp T.b__law_chosen .nil pass0 (pa_cons (pv 0) (pa_cons (pv 5) pa_nil))))
    (pss_one (ps_ret (pe_tup (pa_cons (pv 4) (pa_cons (pv 5) (pa_cons (pv 6) (pa_cons (pe_call G__law_extra (hr.mono (by decide)) rfl T.g__law_extra T.F__law_extra.kp T.b__law_extra .nil pass0 (pa_cons (pv 0) (pa_cons (pv 5) (pa_cons (pv 3) pa_nil)))) pa_nil)))))))))), ?_⟩
    clear hr
    obtain ⟨p, x, y, most, limit, run, rfl, h1, x0, y0, y1, m1, m2, l1, l2, r0, r1, k⟩ := h
    refine st_eq (σ' := [some _, some _, some _, some _, none, none, none]) rfl ?_
    show "go"
    rename_i P qs x2 y2 H2 fP hqs hn hm hP x20 y20 y21 s2 p2 D ds H3 fD s3 hD hds hdl
    have mpos := manyP_pos qs
    have npos := hqs.pos
    have hd1 : ∀ d ∈ ds, 1 ≤ d ∧ d ≤ 10 ^ 24 := fun d m => by
      have z1 := Nat.pos_of_dvd_of_pos ((hds.iff d).mp m) npos
      have z2 := Nat.le_of_dvd npos ((hds.iff d).mp m)
      omega
    have hd0 : 0 < ds.length := by omega
    have hdm : ds.length ≤ 4000 := by omega
    have nD : D ≠ p := ne_new fD p2
    have p3 := s3 _ _ p2
    have s23 : Hld (SB p H H3) := ⟨s2.trans (SB.of s3)⟩
    have hP3 : Hld (Prs H3 P qs) := ⟨hP.same s3⟩
    have nP : P ≠ p := ne_new fP h1
    have fD0 : H D = none := sb_free s2 h1 p2 fD.out
    clear s2 s3 hP
    show "go"
    rename_i C cs x4 y4 H4 fC sub hC x40 y40 y41 s4 p4 X xs x5 y5 H5 fX hxp hxl hX x50 y50 y51 s5 p5 R H6 fR s6 hR
    have nC : C ≠ p := ne_new fC p3
    have s35 := s4.trans s5
    have hP6 : Prs H6 P qs := ((hP3.out.sb s35 nP p3)).same s6
    have hD6 : H6 D = some (.lst (nI ds)) := s6 _ _ (s35 _ _ nD hD)
    have hC6 : H6 C = some (.lst (nI cs)) := s6 _ _ (s5 _ _ nC hC)
    exact k R qs (numP qs) ds cs xs x5 y5 H6 ⟨sb_free (s23.out.trans s35) h1 p5 fR.out⟩ ⟨P, D, C, X, hR, hP6, hD6, hC6, s6 _ _ hX⟩ ⟨⟨npos, by omega, hds, by omega, sub, hxp, by omega⟩, hqs, rfl, hdl⟩ (fun P' D' C' X' e => by rw [hR] at e; cases e; exact ⟨fP.out, fD0, sb_free s23.out h1 p3 fC.out, sb_free (s23.out.trans s4) h1 p4 fX.out⟩) x50 y50 y51 ((s23.out.trans s35).trans (SB.of s6)) (s6 _ _ p5)
/-! #### Calendar.divisors: 0 self -/
def sp_Calendar_divisors (T : Txt K mg) : Sp := fun vs H Q _ => ∃ (r : Addr) (N : Nat) (cs es : List Nat), vs = [.ref r] ∧ (Cal T.C_Calendar H r N cs es) ∧ ∀ D H', Fr H D → Same H H' → H' D = some (.lst (nI cs)) → Q (.ref D) H'
theorem len_Calendar_divisors {vs H Q E} (T : Txt K mg) (h : sp_Calendar_divisors T vs H Q E) : vs.length = 1 := by obtain ⟨r, N, cs, es, rfl, _⟩ := h; rfl
theorem use_Calendar_divisors {T : Txt K mg} {H : Hp} {Q : VK} {E : XK} {r : Addr} {N : Nat} {cs es : List Nat} (h1 : Cal T.C_Calendar H r N cs es) (k : ∀ D H', Fr H D → Same H H' → H' D = some (.lst (nI cs)) → Q (.ref D) H') : sp_Calendar_divisors T [.ref r] H Q E := ⟨r, N, cs, es, rfl, h1, k⟩
local macro_rules | `(tactic| show "own") => `(tactic| (((with_reducible refine' use_Calendar_divisors ?s1 ?nxt); (case s1 => (show "cal")); (case' nxt => skip)); intro _ _ _ _ _))

theorem ok_Calendar_divisors (T : Txt K mg) : FnOk P w K mg base CX0 1 T.f_Calendar_divisors T.fd_Calendar_divisors ["self"] (sp_Calendar_divisors T) := by
  refine T.F_Calendar_divisors.ok sc_Calendar_divisors (fun vs H Q E h => ?_) (fun cdv A outer s H vs Q E hr h => ?_)
  · exact len_Calendar_divisors T h
  · refine ⟨_, (pss_one (ps_ret (pe_callTy (call_listD rfl) (by rfl) T.z_list (by decide +kernel) (pa_cons (pe_fldK (K := K) rfl (pv 0) rfl) pa_nil)))), ?_⟩
    clear hr
    obtain ⟨r, N, cs, es, rfl, h1, k⟩ := h
    refine st_eq (σ' := [some _]) rfl ?_
    obtain ⟨⟨dx, c, x, h1, h2, h3⟩, hok, hne⟩ := h1
    have n2 := hok.nm
    have hc := T.cl_Calendar
    have na1 := T.na_Calendar_number
    have na2 := T.na_Calendar_chosen
    have na3 := T.na_Calendar_extra
    show "go"
    refine ⟨_, _, rfl, .inl h2, fun p hp => ?_⟩
    rw [dI_list]
    exact k p _ ⟨hp⟩ (same_upd hp) upd_same
/-! #### Calendar.number: 0 self -/
def sp_Calendar_number (T : Txt K mg) : Sp := fun vs H Q _ => ∃ (r : Addr) (N : Nat) (cs es : List Nat), vs = [.ref r] ∧ (Cal T.C_Calendar H r N cs es) ∧ Q (.int (N : Int)) H
theorem len_Calendar_number {vs H Q E} (T : Txt K mg) (h : sp_Calendar_number T vs H Q E) : vs.length = 1 := by obtain ⟨r, N, cs, es, rfl, _⟩ := h; rfl
theorem use_Calendar_number {T : Txt K mg} {H : Hp} {Q : VK} {E : XK} {r : Addr} {N : Nat} {cs es : List Nat} (h1 : Cal T.C_Calendar H r N cs es) (k : Q (.int (N : Int)) H) : sp_Calendar_number T [.ref r] H Q E := ⟨r, N, cs, es, rfl, h1, k⟩
local macro_rules | `(tactic| show "own") => `(tactic| (((with_reducible refine' use_Calendar_number ?s1 ?nxt); (case s1 => (show "cal")); (case' nxt => skip))))

theorem ok_Calendar_number (T : Txt K mg) : FnOk P w K mg base CX0 1 T.f_Calendar_number T.fd_Calendar_number ["self"] (sp_Calendar_number T) := by
  refine T.F_Calendar_number.ok sc_Calendar_number (fun vs H Q E h => ?_) (fun cdv A outer s H vs Q E hr h => ?_)
  · exact len_Calendar_number T h
  · refine ⟨_, (pss_one (ps_ret (pe_fldK (K := K) rfl (pv 0) rfl))), ?_⟩
    clear hr
    obtain ⟨r, N, cs, es, rfl, h1, k⟩ := h
    refine st_eq (σ' := [some _]) rfl ?_
    obtain ⟨⟨dx, c, x, h1, h2, h3⟩, hok, hne⟩ := h1
    have n2 := hok.nm
    have hc := T.cl_Calendar
    have na1 := T.na_Calendar_number
    have na2 := T.na_Calendar_chosen
    have na3 := T.na_Calendar_extra
    show "go"
    exact k
/-! #### _law_classes_right: 0 parts, 1 wide, 2 due, 3 number, 4 told, 5 one, 6 prime, 7 power, 8 classes, 9 highest -/
def sp__law_classes_right (T : Txt K mg) : Sp := fun vs H Q _ => ∃ (P W U Y : Addr) (L N : Nat) (ts : List (Nat × Nat)) (ws du cc ce : List Nat), vs = [.ref P, .ref W, .ref U, .int (N : Int), .ref Y] ∧ (Prs H P ts) ∧ (Parts ts) ∧ (H W = some (.lst (nI ws))) ∧ (H U = some (.lst (nI du))) ∧ (H Y = some (.lst (nI cc))) ∧ (AllDivs L ws) ∧ (N ∣ L) ∧ (1 ≤ L) ∧ (L ≤ 10 ^ 24) ∧ (ws.length ≤ 4000) ∧ (Canon N cc ce) ∧ (ts.length ≤ 100) ∧ (∀ d, d ∣ L → (d ∈ du ↔ Nat.gcd d N ∈ cc)) ∧ ∀ H', Same H H' → Q (.bl true) H'
theorem len__law_classes_right {vs H Q E} (T : Txt K mg) (h : sp__law_classes_right T vs H Q E) : vs.length = 5 := by obtain ⟨P, W, U, Y, L, N, ts, ws, du, cc, ce, rfl, _⟩ := h; rfl
theorem use__law_classes_right {T : Txt K mg} {H : Hp} {Q : VK} {E : XK} {P W U Y : Addr} {L N : Nat} {ts : List (Nat × Nat)} {ws du cc ce : List Nat} (h0 : Prs H P ts) (pt : Parts ts) (h1 : H W = some (.lst (nI ws))) (h2 : H U = some (.lst (nI du))) (h3 : H Y = some (.lst (nI cc))) (hds : AllDivs L ws) (dv : N ∣ L) (n1 : 1 ≤ L) (nm : L ≤ 10 ^ 24) (dl : ws.length ≤ 4000) (le : Canon N cc ce) (tl : ts.length ≤ 100) (rg : ∀ d, d ∣ L → (d ∈ du ↔ Nat.gcd d N ∈ cc)) (k : ∀ H', Same H H' → Q (.bl true) H') : sp__law_classes_right T [.ref P, .ref W, .ref U, .int (N : Int), .ref Y] H Q E := ⟨P, W, U, Y, L, N, ts, ws, du, cc, ce, rfl, h0, pt, h1, h2, h3, hds, dv, n1, nm, dl, le, tl, rg, k⟩
local macro_rules | `(tactic| show "own") => `(tactic| (((with_reducible refine' use__law_classes_right ?s1 ?s2 ?s3 ?s4 ?s5 ?s6 ?s7 ?s8 ?s9 ?s10 ?s11 ?s12 ?s13 ?nxt); (case s1 => (show "prs")); (case s2 => (assumption)); (case s3 => (show "hp")); (case s4 => (show "hp")); (case s5 => (show "hp")); (case s6 => (assumption)); (case s7 => (assumption)); (case s8 => (omega)); (case s9 => (omega)); (case s10 => (omega)); (case s11 => (assumption)); (case s12 => (omega)); (case s13 => (assumption)); (case' nxt => skip)); intro _ _))

theorem ok__law_classes_right (T : Txt K mg) : FnOk P w K mg base CX0 2 T.f__law_classes_right T.fd__law_classes_right ["parts", "wide", "due", "number", "told"] (sp__law_classes_right T) := by
  have G__law_gcd : FnOk P w K mg base CX0 1 T.f__law_gcd T.fd__law_gcd ["one", "other"] (sp__law_gcd T) := ok__law_gcd T
  refine T.F__law_classes_right.ok sc__law_classes_right (fun vs H Q E h => ?_) (fun cdv A outer s H vs Q E hr h => ?_)
  · exact len__law_classes_right T h
  · refine ⟨_, (pss_cons (ps_if (PW.pt (pw_or (pt_cmpR op_ltU (pv 3) pe_int (nomark _)) (pw_or1 (pt_cmpR (op_neK (K := K) rfl hr.units) (pe_op op_modU (pe_callTy c_int1 (by rfl) T.z_int (by decide +kernel) (pa_cons (pe_ix (ix_seqK (K := K) rfl) (pv 1) (pe_un un_neg pe_int) (fun _ _ => rfl)) pa_nil)) (pv 3)) pe_int (nomark _))))) (pss_one (ps_ret pe_bl)) pss_nil)
    (pss_cons (ps_for PassesOwn.never rfl (pi_listK (K := K) rfl (pv 4)) (pg_name (i := 5) sc__law_classes_right.nd rfl (Or.inl rfl)) (pss_one (ps_if (PW.pt (pw_or (pt_cmpR op_ltU (pv 5) pe_int (nomark _)) (pw_or1 (pt_cmpR (op_neK (K := K) rfl hr.units) (pe_op op_modU (pe_callTy c_int1 (by rfl) T.z_int (by decide +kernel) (pa_cons (pv 3) pa_nil)) (pv 5)) pe_int (nomark _))))) (pss_one (ps_ret pe_bl)) pss_nil)))
    (pss_cons (ps_for PassesOwn.never rfl (pi_listK (K := K) rfl (pv 1)) (pg_name (i := 5) sc__law_classes_right.nd rfl (Or.inl rfl)) (pss_one (ps_if (pt_cmpR (op_neK (K := K) rfl hr.units) (pe_cmpR (op_inK (K := K) rfl) (pv 5) (pv 2) (by rfl)) (pe_cmpR (op_inK (K := K) rfl) (pe_call G__law_gcd (hr.mono (by decide)) rfl T.g__law_gcd T.F__law_gcd.kp T.b__law_gcd .nil pass0 (pa_cons (pv 5) (pa_cons (pv 3) pa_nil))) (pv 4) (by rfl)) (nomark _)) (pss_one (ps_ret pe_bl)) pss_nil)))
    (pss_cons (ps_for PassesOwn.never rfl (pi_listK (K := K) rfl (pv 0)) (pg_tlK (K := K) rfl rfl (pgs_cons (pg_name (i := 6) sc__law_classes_right.nd rfl (Or.inr rfl)) (pgs_cons (pg_name (i := 7) sc__law_classes_right.nd rfl (Or.inl rfl)) pgs_nil))) (pss_one (ps_if (pt_cmpR (op_eqK (K := K) rfl hr.units) (pe_op op_modU (pe_callTy c_int1 (by rfl) T.z_int (by decide +kernel) (pa_cons (pv 3) pa_nil)) (pv 6)) pe_int (nomark _)) (pss_cons (ps_setLc (i := 8) (own := [("one", 5)]) rfl sc__law_classes_right.nd rfl rfl (sw_true rfl rfl rfl (by decide +kernel)) (pi_listK (K := K) rfl (pv 1)) (blkOk_by (own := [("one", 5)]) (N := N__law_classes_right) (sc := defScope s__law_classes_right) (by first | decide +kernel | rfl)) (fun _ _ _ _ _ => (pg_name (i := 5) sc__law_classes_right.nd rfl (by first | exact Or.inl rfl | exact Or.inr rfl))) (fun _ _ _ _ _ => (pts_one (pt_cmpR (op_eqK (K := K) rfl hr.units) (pe_op op_modU (pe_callTy c_int1 (by rfl) T.z_int (by decide +kernel) (pa_cons (pv 3) pa_nil)) (pv 5)) pe_int (nomark _)))) (fun _ _ _ _ _ => (pv 5)))
    (pss_cons (ps_setLc (i := 9) (own := [("one", 5)]) rfl sc__law_classes_right.nd rfl rfl (sw_true rfl rfl rfl (by decide +kernel)) (pi_listK (K := K) rfl (pv 8)) (blkOk_by (own := [("one", 5)]) (N := N__law_classes_right) (sc := defScope s__law_classes_right) (by first | decide +kernel | rfl)) (fun _ _ _ _ _ => (pg_name (i := 5) sc__law_classes_right.nd rfl (by first | exact Or.inl rfl | exact Or.inr rfl))) (fun _ _ _ _ _ => (pts_one (pt_cmpR (op_neK (K := K) rfl hr.units) (pe_op op_modU (pe_callTy c_int1 (by rfl) T.z_int (by decide +kernel) (pa_cons (pe_op op_fdivU (pv 3) (pv 5)) pa_nil)) (pv 6)) pe_int (nomark _)))) (fun _ _ _ _ _ => (pv 5)))
    (pss_one (ps_if (pt_cmpR (op_eqK (K := K) rfl hr.units) (pe_lc (own := [("one", 5)]) rfl sc__law_classes_right.nd (pi_listK (K := K) rfl (pv 9)) (blkOk_by (own := [("one", 5)]) (N := N__law_classes_right) (sc := defScope s__law_classes_right) (by first | decide +kernel | rfl)) (fun _ _ _ _ _ => (pg_name (i := 5) sc__law_classes_right.nd rfl (by first | exact Or.inl rfl | exact Or.inr rfl))) (fun _ _ _ _ _ => (pts_one (pt_cmpR (op_neK (K := K) rfl hr.units) (pe_cmpR (op_inK (K := K) rfl) (pv 5) (pv 4) (by rfl)) (pe_cmpR (op_inK (K := K) rfl) (pe_op op_fdivU (pv 5) (pv 6)) (pv 4) (by rfl)) (nomark _)))) (fun _ _ _ _ _ => (pv 5))) (pe_lst pa_nil) (nomark _)) (pss_one (ps_ret pe_bl)) pss_nil)))) pss_nil)))
    (pss_one (ps_ret pe_bl)))))), ?_⟩
    clear hr
    obtain ⟨P, W, U, Y, L, N, ts, ws, du, cc, ce, rfl, h0, pt, h1, h2, h3, hds, dv, n1, nm, dl, le, tl, rg, k⟩ := h
    refine st_eq (σ' := [some _, some _, some _, some _, some _, none, none, none, none, none]) rfl ?_
    obtain ⟨as, hP1, hP2, hP3⟩ := h0.ob
    have N1 := le.n1
    have Nl := Nat.le_of_dvd n1 dv
    have sN : Sz 90 (N : Int) := Sz.mk (by omega)
    have sn : Sz 90 (L : Int) := Sz.mk (by omega)
    have e0 : (L : Int) % (N : Int) = 0 := Int.emod_eq_zero_of_dvd (Int.natCast_dvd_natCast.mpr dv)
    show "go"
    refine ix_l h1 (alast hds n1) ?_
    show "go"
    refine f_list (fun i σ' H' => H' = H ∧ ∃ v, σ' = [some (.ref P), some (.ref W), some (.ref U), some (.int (N : Int)), some (.ref Y), v, none, none, none, none]) (SqL.of h3) ⟨rfl, _, rfl⟩ (fun i σ' H' _ q => SqL.of (by rw [q.1]; exact h3)) ?_ ?_
    · rintro i e σ' H' hi ⟨rfl, v, rfl⟩
      obtain ⟨d, rfl, hd⟩ := nI_at hi
      have dN := le.cd d (List.mem_of_getElem? hd)
      have d1 := Nat.pos_of_dvd_of_pos dN N1
      have e2 : (N : Int) % (d : Int) = 0 := Int.emod_eq_zero_of_dvd (Int.natCast_dvd_natCast.mpr dN)
      show "go"
      exact ⟨rfl, _, rfl⟩
    rintro σ' HB ⟨rfl, v, rfl⟩
    show "go"
    refine f_list (fun i σ' H2 => H2 = HB ∧ ∃ v, σ' = [some (.ref P), some (.ref W), some (.ref U), some (.int (N : Int)), some (.ref Y), v, none, none, none, none]) (SqL.of h1) ⟨rfl, _, rfl⟩ (fun i σ' H2 _ q => SqL.of (by rw [q.1]; exact h1)) ?_ ?_
    · rintro i e σ' H2 hi ⟨rfl, v, rfl⟩
      obtain ⟨d, rfl, hd⟩ := nI_at hi
      have dn := (hds.iff d).mp (List.mem_of_getElem? hd)
      have e3 : decide (Nat.gcd d N ∈ cc) = decide (d ∈ du) := decide_eq_decide.mpr (rg d dn).symm
      show "go"
      refine o_inN h2 ?_
      show "go"
      rw [show gcdZ (d : Int) N = ((Nat.gcd d N : Nat) : Int) from gcdZ_nat _ _]
      refine o_inN h3 ?_
      show "go"
      rw [e3]
      show "go"
      exact ⟨rfl, _, rfl⟩
    rintro σ' HC ⟨rfl, v, rfl⟩
    show "go"
    have hP1' := hP1
    have hP3' := hP3
    have h1' := h1
    have h3' := h3
    refine f_list (fun i σ' H' => Same HC H' ∧ ∃ v5 v6 v7 v8 v9, σ' = [some (.ref P), some (.ref W), some (.ref U), some (.int (N : Int)), some (.ref Y), v5, v6, v7, v8, v9]) (SqL.of hP1') ⟨Same.refl _, _, _, _, _, _, rfl⟩ (fun i σ' H' _ q => SqL.of (q.1 _ _ hP1')) ?_ ?_
    · rintro i e σ' H' hi ⟨s6, v5, v6, v7, v8, v9, rfl⟩
      rw [List.getElem?_map] at hi
      obtain ⟨a, ha, rfl⟩ := Option.map_eq_some_iff.mp hi
      have il := (List.getElem?_eq_some_iff.mp ha).1
      obtain ⟨⟨p, kk⟩, hq⟩ : ∃ q, ts[i]? = some q := ⟨ts[i]'(by omega), by simp⟩
      have hT := s6 _ _ (hP3' i a _ ha hq)
      have hp := (pt.pr _ (List.mem_of_getElem? hq)).1
      have p2 := hp.1
      have g1 := s6 _ _ h1'
      have g3 := s6 _ _ h3'
      show "go"
      refine ifs_2 (fun e0 => ?_) (fun e0 => ?_)
      · have pN : p ∣ N := mod0 e0
        have pl := Nat.le_of_dvd N1 pN
        have sp : Sz 90 (p : Int) := Sz.mk (by omega)
        have pp : Pr p := hp
        have p2' : 2 ≤ p := p2
        show "go"
        refine lc_fun (prF fun d => d ∣ N) (SqL.of g1) (by rw [List.length_map]; omega) ?_ ?_
        · intro v hv H1 s1 R kR
          obtain ⟨j, hj⟩ := List.mem_iff_getElem?.mp hv
          obtain ⟨d, rfl, hd⟩ := nI_at hj
          have dn := (hds.iff d).mp (List.mem_of_getElem? hd)
          have d1 := Nat.pos_of_dvd_of_pos dn n1
          have kR' : ∀ H2, Same H1 H2 → R (prF (fun d => d ∣ N) (.int (d : Int))) H2 := kR
          clear kR
          show "go"
          refine lce_2 (fun e => ?_) (fun e => ?_)
          · rw [prF_yes (p := fun d => d ∣ N) (mod0 e)] at kR'
            show "go"
            exact kR' _ (Same.refl _)
          · rw [prF_no (p := fun d => d ∣ N) (mod0' e)] at kR'
            exact kR' _ (Same.refl _)
        intro G HG fG sG hG
        obtain ⟨gs, hgs, mg, sbg⟩ := prF_fm (fun d => d ∣ N) ws
        rw [hgs] at hG
        have gl := sbg.length_le
        show "go"
        refine lc_fun (prF fun d => ¬ p ∣ N / d) (SqL.of hG) (by rw [List.length_map]; omega) ?_ ?_
        · intro v hv H1 s1 R kR
          obtain ⟨j, hj⟩ := List.mem_iff_getElem?.mp hv
          obtain ⟨d, rfl, hd⟩ := nI_at hj
          have dN := ((mg d).mp (List.mem_of_getElem? hd)).2
          have d1 := Nat.pos_of_dvd_of_pos dN N1
          have dl2 := Nat.le_of_dvd N1 dN
          have sd : Sz 90 (d : Int) := Sz.mk (by omega)
          have kR' : ∀ H2, Same H1 H2 → R (prF (fun d => ¬ p ∣ N / d) (.int (d : Int))) H2 := kR
          clear kR
          show "go"
          refine lce_n2 (fun e => ?_) (fun e => ?_)
          · rw [prF_yes (p := fun d => ¬ p ∣ N / d) (fun q => e (Int.emod_eq_zero_of_dvd (Int.natCast_dvd_natCast.mpr q)))] at kR'
            show "go"
            exact kR' _ (Same.refl _)
          · rw [prF_no (p := fun d => ¬ p ∣ N / d) (fun q => q (Int.natCast_dvd_natCast.mp (Int.dvd_of_emod_eq_zero e)))] at kR'
            exact kR' _ (Same.refl _)
        intro G2 HG2 fG2 sG2 hG2
        obtain ⟨g2, hg2, mg2, sbg2⟩ := prF_fm (fun d => ¬ p ∣ N / d) gs
        rw [hg2] at hG2
        have gl2 := sbg2.length_le
        have g3' := sG2 _ _ (sG _ _ g3)
        show "go"
        refine lc_fun (prF fun d => ¬ (d ∈ cc ↔ d / p ∈ cc)) (SqL.of hG2) (by rw [List.length_map]; omega) ?_ ?_
        · intro v hv H1 s1 R kR
          obtain ⟨j, hj⟩ := List.mem_iff_getElem?.mp hv
          obtain ⟨d, rfl, hd⟩ := nI_at hj
          have dN := ((mg d).mp ((mg2 d).mp (List.mem_of_getElem? hd)).1).2
          have d1 := Nat.pos_of_dvd_of_pos dN N1
          have dl2 := Nat.le_of_dvd N1 dN
          have sd : Sz 90 (d : Int) := Sz.mk (by omega)
          have q3 := s1 _ _ g3'
          have kR' : ∀ H2, Same H1 H2 → R (prF (fun d => ¬ (d ∈ cc ↔ d / p ∈ cc)) (.int (d : Int))) H2 := kR
          clear kR
          show "go"
          refine o_inN q3 ?_
          show "go"
          refine o_inN (z := d / p) q3 ?_
          show "go"
          have nb := nbl (d ∈ cc) (d / p ∈ cc)
          cases hb : (!decide (V.bl (decide (d ∈ cc)) = V.bl (decide (d / p ∈ cc)))) with
          | true =>
            rw [prF_yes (p := fun d => ¬ (d ∈ cc ↔ d / p ∈ cc)) (nb.mp hb)] at kR'
            refine lce_T ?_
            show "go"
            exact kR' _ (Same.refl _)
          | false =>
            rw [prF_no (p := fun d => ¬ (d ∈ cc ↔ d / p ∈ cc)) (fun q => by rw [nb.mpr q] at hb; cases hb)] at kR'
            exact lce_F (kR' _ (Same.refl _))
        intro G4 HG4 fG4 sG4 hG4
        obtain ⟨g4, hg4, mg4, sbg4⟩ := prF_fm (fun d => ¬ (d ∈ cc ↔ d / p ∈ cc)) g2
        rw [hg4] at hG4
        have ne : g4 ≠ [] := by
          intro e4
          refine le.le.2 p pp pN (tells_needless (ds := ws) pp N1 pN (fun d z => (hds.iff d).mpr (Nat.dvd_trans z dv)) (fun d md dN nd => ?_) fun x => Iff.rfl)
          apply Classical.byContradiction
          intro w
          have : d ∈ g4 := (mg4 d).mpr ⟨(mg2 d).mpr ⟨(mg d).mpr ⟨md, dN⟩, nd⟩, w⟩
          rw [e4] at this
          cases this
        have t4 : Hld (Same HC HG4) := ⟨((s6.trans sG).trans sG2).trans sG4⟩
        clear sG sG2 sG4
        show "go"
        rename_i L HL fL sL hL
        refine Or.inr ?_
        refine o_eqN (ys := []) (sL _ _ hG4) hL ?_
        show "go"
        exact ⟨t4.out.trans sL, _, _, _, _, _, rfl⟩
      · show "go"
        exact ⟨s6, _, _, _, _, _, rfl⟩
    rintro σ' H' ⟨s6, v5, v6, v7, v8, v9, rfl⟩
    show "go"
    exact k _ s6
/-! #### _law_has: 0 size, 1 number, 2 chosen, 3 extra -/
def sp__law_has (T : Txt K mg) : Sp := fun vs H Q _ => ∃ (C_ X : Addr) (n : Nat) (z : Int) (cs xs : List Nat), vs = [.int z, .int (n : Int), .ref C_, .ref X] ∧ (H C_ = some (.lst (nI cs))) ∧ (H X = some (.lst (nI xs))) ∧ Q (.bl (decide (InC n cs xs z))) H
theorem len__law_has {vs H Q E} (T : Txt K mg) (h : sp__law_has T vs H Q E) : vs.length = 4 := by obtain ⟨C_, X, n, z, cs, xs, rfl, _⟩ := h; rfl
theorem use__law_has {T : Txt K mg} {H : Hp} {Q : VK} {E : XK} {C_ X : Addr} {n : Nat} {z : Int} {cs xs : List Nat} (h1 : H C_ = some (.lst (nI cs))) (h2 : H X = some (.lst (nI xs))) (k : Q (.bl (decide (InC n cs xs z))) H) : sp__law_has T [.int z, .int (n : Int), .ref C_, .ref X] H Q E := ⟨C_, X, n, z, cs, xs, rfl, h1, h2, k⟩
local macro_rules | `(tactic| show "own") => `(tactic| (((with_reducible refine' use__law_has ?s1 ?s2 ?nxt); (case s1 => (show "hp")); (case s2 => (show "hp")); (case' nxt => skip))))

theorem ok__law_has (T : Txt K mg) : FnOk P w K mg base CX0 2 T.f__law_has T.fd__law_has ["size", "number", "chosen", "extra"] (sp__law_has T) := by
  have G__law_gcd : FnOk P w K mg base CX0 1 T.f__law_gcd T.fd__law_gcd ["one", "other"] (sp__law_gcd T) := ok__law_gcd T
  refine T.F__law_has.ok sc__law_has (fun vs H Q E h => ?_) (fun cdv A outer s H vs Q E hr h => ?_)
  · exact len__law_has T h
  · refine ⟨_, (pss_cons (ps_if (pt_cmpR op_ltU (pv 0) pe_int (nomark _)) (pss_one (ps_ret pe_bl)) pss_nil)
    (pss_one (ps_ret (pe_cmpR (op_neK (K := K) rfl hr.units) (pe_cmpR (op_inK (K := K) rfl) (pe_call G__law_gcd (hr.mono (by decide)) rfl T.g__law_gcd T.F__law_gcd.kp T.b__law_gcd .nil pass0 (pa_cons (pv 0) (pa_cons (pv 1) pa_nil))) (pv 2) (by rfl)) (pe_cmpR (op_inK (K := K) rfl) (pv 0) (pv 3) (by rfl)) (nomark _))))), ?_⟩
    clear hr
    obtain ⟨C_, X, n, z, cs, xs, rfl, h1, h2, k⟩ := h
    refine st_eq (σ' := [some _, some _, some _, some _]) rfl ?_
    show "go"
    refine ifs_2 (fun e => ?_) (fun e => ?_)
    · show "go"
      rw [decide_eq_false (fun q : InC n cs xs z => by have := q.1; omega)] at k
      exact k
    · have e1 : 1 ≤ z := by omega
      obtain ⟨w, rfl⟩ : ∃ w : Nat, z = (w : Int) := ⟨z.toNat, by omega⟩
      show "go"
      rw [show gcdZ (w : Int) n = ((Int.gcd (w : Int) n : Nat) : Int) from gcdZ_nat _ _]
      refine o_inN h1 ?_
      show "go"
      refine o_inN h2 ?_
      show "go"
      have e4 : (!decide (V.bl (decide (Int.gcd (w : Int) n ∈ cs)) = V.bl (decide (w ∈ xs)))) = decide (Int.gcd (w : Int) n ∈ cs ↔ ¬ w ∈ xs) := cal_in
      rw [e4]
      have e2 : ((1 : Int) ≤ (w : Int) ∧ ((Int.gcd (w : Int) n ∈ cs) ↔ ¬ ((w : Int).toNat ∈ xs))) ↔ (Int.gcd (w : Int) n ∈ cs ↔ ¬ w ∈ xs) := ⟨fun q => q.2, fun q => ⟨e1, q⟩⟩
      have e5 : decide (InC n cs xs (w : Int)) = decide (Int.gcd (w : Int) n ∈ cs ↔ ¬ w ∈ xs) := decide_eq_decide.mpr e2
      rw [e5] at k
      exact k
/-! #### _law_in: 0 size, 1 one -/
def sp__law_in (T : Txt K mg) : Sp := fun vs H Q _ => ∃ (R : Addr) (z : Int) (m lim xl n : Nat) (qs : List (Nat × Nat)) (ds cs xs : List Nat), vs = [.int z, .ref R] ∧ (LSet H R qs ds cs xs) ∧ (LOk m lim xl n qs ds cs xs) ∧ Q (.bl (decide (InC n cs xs z))) H
theorem len__law_in {vs H Q E} (T : Txt K mg) (h : sp__law_in T vs H Q E) : vs.length = 2 := by obtain ⟨R, z, m, lim, xl, n, qs, ds, cs, xs, rfl, _⟩ := h; rfl
theorem use__law_in {T : Txt K mg} {H : Hp} {Q : VK} {E : XK} {R : Addr} {z : Int} {m lim xl n : Nat} {qs : List (Nat × Nat)} {ds cs xs : List Nat} (h1 : LSet H R qs ds cs xs) (h2 : LOk m lim xl n qs ds cs xs) (k : Q (.bl (decide (InC n cs xs z))) H) : sp__law_in T [.int z, .ref R] H Q E := ⟨R, z, m, lim, xl, n, qs, ds, cs, xs, rfl, h1, h2, k⟩
local macro_rules | `(tactic| show "own") => `(tactic| (((with_reducible refine' use__law_in ?s1 ?s2 ?nxt); (case s1 => (show "lset")); (case s2 => (assumption)); (case' nxt => skip))))

theorem ok__law_in (T : Txt K mg) : FnOk P w K mg base CX0 3 T.f__law_in T.fd__law_in ["size", "one"] (sp__law_in T) := by
  have G__law_has : FnOk P w K mg base CX0 2 T.f__law_has T.fd__law_has ["size", "number", "chosen", "extra"] (sp__law_has T) := ok__law_has T
  refine T.F__law_in.ok sc__law_in (fun vs H Q E h => ?_) (fun cdv A outer s H vs Q E hr h => ?_)
  · exact len__law_in T h
  · refine ⟨_, (pss_one (ps_ret (pe_call G__law_has (hr.mono (by decide)) rfl T.g__law_has T.F__law_has.kp T.b__law_has .nil pass0 (pa_cons (pv 0) (pa_cons (pe_ix (ix_seqK (K := K) rfl) (pe_ix (ix_seqK (K := K) rfl) (pv 1) pe_int (fun _ _ => rfl)) (pe_un un_neg pe_int) (fun _ _ => rfl)) (pa_cons (pe_ix (ix_seqK (K := K) rfl) (pv 1) pe_int (fun _ _ => rfl)) (pa_cons (pe_ix (ix_seqK (K := K) rfl) (pv 1) pe_int (fun _ _ => rfl)) pa_nil))))))), ?_⟩
    clear hr
    obtain ⟨R, z, m, lim, xl, n, qs, ds, cs, xs, rfl, h1, h2, k⟩ := h
    refine st_eq (σ' := [some _, some _]) rfl ?_
    obtain ⟨P, D, C, X, g1, g2, g3, g4, g5⟩ := h1.ob
    show "go"
    refine ix_l g3 (alast h2.ci.all h2.ci.n1) ?_
    show "go"
    exact k
/-! #### _law_integers: 0 told, 1 one -/
def sp__law_integers (T : Txt K mg) : Sp := fun vs H Q _ => ∃ (p : Addr) (xs : List Nat), vs = [.ref p] ∧ (H p = some (.lst (nI xs))) ∧ Q (.bl true) H
theorem len__law_integers {vs H Q E} (T : Txt K mg) (h : sp__law_integers T vs H Q E) : vs.length = 1 := by obtain ⟨p, xs, rfl, _⟩ := h; rfl
theorem use__law_integers {T : Txt K mg} {H : Hp} {Q : VK} {E : XK} {p : Addr} {xs : List Nat} (h1 : H p = some (.lst (nI xs))) (k : Q (.bl true) H) : sp__law_integers T [.ref p] H Q E := ⟨p, xs, rfl, h1, k⟩
local macro_rules | `(tactic| show "own") => `(tactic| (((with_reducible refine' use__law_integers ?s1 ?nxt); (case s1 => (show "hp")); (case' nxt => skip))))

theorem ok__law_integers (T : Txt K mg) : FnOk P w K mg base CX0 1 T.f__law_integers T.fd__law_integers ["told"] (sp__law_integers T) := by
  refine T.F__law_integers.ok sc__law_integers (fun vs H Q E h => ?_) (fun cdv A outer s H vs Q E hr h => ?_)
  · exact len__law_integers T h
  · refine ⟨_, (pss_cons (ps_if (pt_not (ptTK (K := K) rfl (pe_callB (c_isiK (K := K) rfl) (by rfl) T.z_isinstance (by decide +kernel) (pa_cons (pv 0) (pa_cons (pe_bltn (v := .ty "list") (by rfl) T.z_list (by decide +kernel) rfl) pa_nil))) (by intro _; rfl))) (pss_one (ps_ret pe_bl)) pss_nil)
    (pss_cons (ps_for PassesOwn.never rfl (pi_listK (K := K) rfl (pv 0)) (pg_name (i := 1) sc__law_integers.nd rfl (Or.inl rfl)) (pss_one (ps_if (PW.pt (pw_or (pt_not (ptTK (K := K) rfl (pe_callB (c_isiK (K := K) rfl) (by rfl) T.z_isinstance (by decide +kernel) (pa_cons (pv 1) (pa_cons (pe_bltn (v := .ty "int") (by rfl) T.z_int (by decide +kernel) rfl) pa_nil))) (by intro _; rfl))) (pw_or1 (ptTK (K := K) rfl (pe_callB (c_isiK (K := K) rfl) (by rfl) T.z_isinstance (by decide +kernel) (pa_cons (pv 1) (pa_cons (pe_bltn (v := .ty "bool") (by rfl) T.z_bool (by decide +kernel) rfl) pa_nil))) (by intro _; rfl))))) (pss_one (ps_ret pe_bl)) pss_nil)))
    (pss_one (ps_ret pe_bl)))), ?_⟩
    clear hr
    obtain ⟨p, xs, rfl, h1, k⟩ := h
    refine st_eq (σ' := [some _, none]) rfl ?_
    show "go"
    refine f_list (fun i σ' H' => H' = H ∧ ∃ v, σ' = [some (.ref p), v]) (SqL.of h1) ⟨rfl, _, rfl⟩ (fun i σ' H' _ q => SqL.of (by rw [q.1]; exact h1)) ?_ ?_
    · rintro i e σ' H' hi ⟨rfl, v, rfl⟩
      obtain ⟨d, rfl, hd⟩ := nI_at hi
      show "go"
      exact ⟨rfl, _, rfl⟩
    rintro σ' H' ⟨rfl, v, rfl⟩
    show "go"
    exact k
/-! #### _law_is_integer: 0 told -/
def sp__law_is_integer (_ : Txt K mg) : Sp := fun vs H Q _ => ∃ i : Int, vs = [.int i] ∧ Q (.bl true) H
theorem len__law_is_integer {vs H Q E} (T : Txt K mg) (h : sp__law_is_integer T vs H Q E) : vs.length = 1 := by obtain ⟨i, rfl, _⟩ := h; rfl
theorem use_isint {T : Txt K mg} {H : Hp} {Q : VK} {E : XK} {i : Int} (h : Q (.bl true) H) : sp__law_is_integer T [.int i] H Q E := ⟨i, rfl, h⟩
local macro_rules | `(tactic| show "own") => `(tactic| ((with_reducible refine use_isint ?_)))
theorem ok__law_is_integer (T : Txt K mg) : FnOk P w K mg base CX0 1 T.f__law_is_integer T.fd__law_is_integer ["told"] (sp__law_is_integer T) := by
  refine T.F__law_is_integer.ok sc__law_is_integer (fun vs H Q E h => ?_) (fun cdv A outer s H vs Q E hr h => ?_)
  · exact len__law_is_integer T h
  · refine ⟨_, (pss_one (ps_ret (pe_and (pe_callB (c_isiK (K := K) rfl) (by rfl) T.z_isinstance (by decide +kernel) (pa_cons (pv 0) (pa_cons (pe_bltn (v := .ty "int") (by rfl) T.z_int (by decide +kernel) rfl) pa_nil))) (pe_one (pe_not (pe_callB (c_isiK (K := K) rfl) (by rfl) T.z_isinstance (by decide +kernel) (pa_cons (pv 0) (pa_cons (pe_bltn (v := .ty "bool") (by rfl) T.z_bool (by decide +kernel) rfl) pa_nil)))))))), ?_⟩
    clear hr
    obtain ⟨i, rfl, k⟩ := h
    refine st_eq (σ' := [some _]) rfl ?_
    show "go"
    exact k
/-! #### _law_join: 0 parts, 1 others, 2 joined, 3 prime, 4 power, 5 more, 6 known, 7 one, 8 high -/
def sp__law_join (T : Txt K mg) : Sp := fun vs H Q _ => ∃ (P Q2 : Addr) (qs rs : List (Nat × Nat)), vs = [.ref P, .ref Q2] ∧ (Prs H P qs) ∧ (Prs H Q2 rs) ∧ (Parts qs) ∧ (Parts rs) ∧ (qs.length ≤ 100) ∧ (rs.length ≤ 100) ∧ ∀ J ts H', Fr H J → Same H H' → Prs H' J ts → Parts ts → numP ts = Nat.lcm (numP qs) (numP rs) → Q (.ref J) H'
theorem len__law_join {vs H Q E} (T : Txt K mg) (h : sp__law_join T vs H Q E) : vs.length = 2 := by obtain ⟨P, Q2, qs, rs, rfl, _⟩ := h; rfl
theorem use__law_join {T : Txt K mg} {H : Hp} {Q : VK} {E : XK} {P Q2 : Addr} {qs rs : List (Nat × Nat)} (h1 : Prs H P qs) (h2 : Prs H Q2 rs) (k1 : Parts qs) (k2 : Parts rs) (b1 : qs.length ≤ 100) (b2 : rs.length ≤ 100) (k : ∀ J ts H', Fr H J → Same H H' → Prs H' J ts → Parts ts → numP ts = Nat.lcm (numP qs) (numP rs) → Q (.ref J) H') : sp__law_join T [.ref P, .ref Q2] H Q E := ⟨P, Q2, qs, rs, rfl, h1, h2, k1, k2, b1, b2, k⟩
local macro_rules | `(tactic| show "own") => `(tactic| (((with_reducible refine' use__law_join ?s1 ?s2 ?s3 ?s4 ?s5 ?s6 ?nxt); (case s1 => (show "prs")); (case s2 => (show "prs")); (case s3 => (assumption)); (case s4 => (assumption)); (case s5 => (omega)); (case s6 => (omega)); (case' nxt => skip)); intro _ _ _ _ _ _ _ _))

theorem ok__law_join (T : Txt K mg) : FnOk P w K mg base CX0 1 T.f__law_join T.fd__law_join ["parts", "others"] (sp__law_join T) := by
  refine T.F__law_join.ok sc__law_join (fun vs H Q E h => ?_) (fun cdv A outer s H vs Q E hr h => ?_)
  · exact len__law_join T h
  · refine ⟨_, (pss_cons (ps_set (i := 2) sc__law_join.nd rfl (Or.inl rfl) (pe_lst pa_nil))
    (pss_cons (ps_for PassesOwn.never rfl (pi_listK (K := K) rfl (pv 0)) (pg_tlK (K := K) rfl rfl (pgs_cons (pg_name (i := 3) sc__law_join.nd rfl (Or.inr rfl)) (pgs_cons (pg_name (i := 4) sc__law_join.nd rfl (Or.inl rfl)) pgs_nil))) (pss_cons (ps_setLc (i := 5) (own := [("one", 7), ("high", 8)]) rfl sc__law_join.nd rfl rfl (sw_true rfl rfl rfl (by decide +kernel)) (pi_listK (K := K) rfl (pv 1)) (blkOk_by (own := [("one", 7), ("high", 8)]) (N := N__law_join) (sc := defScope s__law_join) (by first | decide +kernel | rfl)) (fun _ _ _ _ _ => (pg_tlK (K := K) (n := 2) rfl rfl (pgs_cons (pg_name (i := 7) sc__law_join.nd rfl (by first | exact Or.inl rfl | exact Or.inr rfl)) (pgs_cons (pg_name (i := 8) sc__law_join.nd rfl (by first | exact Or.inl rfl | exact Or.inr rfl)) pgs_nil)))) (fun _ _ _ _ _ => (pts_one (pt_cmpR (op_eqK (K := K) rfl hr.units) (pv 7) (pv 3) (nomark _)))) (fun _ _ _ _ _ => (pv 8)))
    (pss_one (ps_expr (pe_bmK (K := K) rfl PySem.F.plainAttrs_list PySem.F.slot_list_append PySem.F.type_list_append mt_append (pv 2) (pa_cons (pe_tup (pa_cons (pv 3) (pa_cons (pe_callB (c_max1K (K := K) rfl rfl) (by rfl) T.z_max (by decide +kernel) (pa_cons (pe_op (op_addK (K := K) rfl) (pe_lst (pa_cons (pv 4) pa_nil)) (pv 5)) pa_nil)) pa_nil))) pa_nil))))))
    (pss_cons (ps_set (i := 6) sc__law_join.nd rfl (Or.inr rfl) (pe_lc (own := [("one", 7), ("high", 8)]) rfl sc__law_join.nd (pi_listK (K := K) rfl (pv 0)) (blkOk_by (own := [("one", 7), ("high", 8)]) (N := N__law_join) (sc := defScope s__law_join) (by first | decide +kernel | rfl)) (fun _ _ _ _ _ => (pg_tlK (K := K) (n := 2) rfl rfl (pgs_cons (pg_name (i := 7) sc__law_join.nd rfl (by first | exact Or.inl rfl | exact Or.inr rfl)) (pgs_cons (pg_name (i := 8) sc__law_join.nd rfl (by first | exact Or.inl rfl | exact Or.inr rfl)) pgs_nil)))) (fun _ _ _ _ _ => pts_nil) (fun _ _ _ _ _ => (pv 7))))
    (pss_one (ps_ret (pe_op (op_addK (K := K) rfl) (pv 2) (pe_lc (own := [("prime", 3), ("power", 4)]) rfl sc__law_join.nd (pi_listK (K := K) rfl (pv 1)) (blkOk_by (own := [("prime", 3), ("power", 4)]) (N := N__law_join) (sc := defScope s__law_join) (by first | decide +kernel | rfl)) (fun _ _ _ _ _ => (pg_tlK (K := K) (n := 2) rfl rfl (pgs_cons (pg_name (i := 3) sc__law_join.nd rfl (by first | exact Or.inl rfl | exact Or.inr rfl)) (pgs_cons (pg_name (i := 4) sc__law_join.nd rfl (by first | exact Or.inl rfl | exact Or.inr rfl)) pgs_nil)))) (fun _ _ _ _ _ => (pts_one (pt_cmpR (op_ninK (K := K) rfl) (pv 3) (pv 6) (by rfl)))) (fun _ _ _ _ _ => (pe_tup (pa_cons (pv 3) (pa_cons (pv 4) pa_nil))))))))))), ?_⟩
    clear hr
    obtain ⟨P, Q2, qs, rs, rfl, h1, h2, k1, k2, b1, b2, k⟩ := h
    refine st_eq (σ' := [some _, some _, none, none, none, none, none, none, none]) rfl ?_
    obtain ⟨as, hP1, hP2, hP3⟩ := h1.ob
    obtain ⟨bs, hQ1, hQ2, hQ3⟩ := h2.ob
    show "go"
    rename_i J HJ fJ sJ hJ
    refine f_list (fun i σ' H' => Same H H' ∧ ∃ (js : List Addr) (ts : List (Nat × Nat)) (v3 v4 v5 : Option V), σ' = [some (.ref P), some (.ref Q2), some (.ref J), v3, v4, v5, none, none, none] ∧ H' J = some (.lst (js.map V.ref)) ∧ js.length = ts.length ∧ (∀ (i : Nat) (a : Addr) (q : Nat × Nat), js[i]? = some a → ts[i]? = some q → H' a = some (.tup [.int (q.1 : Int), .int (q.2 : Int)])) ∧ ts.map Prod.fst = (qs.take i).map Prod.fst ∧ (∀ t ∈ ts, t ∈ qs ∨ t ∈ rs) ∧ (∀ q ∈ qs.take i, ∃ t ∈ ts, t.1 = q.1 ∧ q.2 ≤ t.2) ∧ (∀ r ∈ rs, r.1 ∈ (qs.take i).map Prod.fst → ∃ t ∈ ts, t.1 = r.1 ∧ r.2 ≤ t.2)) (SqL.of (sJ _ _ hP1)) ⟨sJ, [], [], _, _, _, rfl, hJ, rfl, fun i a q e => (by cases e), rfl, fun t m => absurd m List.not_mem_nil, fun t m => (by simp at m), fun t _ m => (by simp at m)⟩ (fun i σ' H' _ q => SqL.of (q.1 _ _ hP1)) ?_ ?_
    · rintro i e σ' H' hi ⟨s6, js, ts, v3, v4, v5, rfl, hJ2, jl, j3, tf, tm, tq, tr⟩
      rw [List.getElem?_map] at hi
      obtain ⟨a, ha, rfl⟩ := Option.map_eq_some_iff.mp hi
      have il := (List.getElem?_eq_some_iff.mp ha).1
      obtain ⟨⟨p, kk⟩, hq⟩ : ∃ q, qs[i]? = some q := ⟨qs[i]'(by omega), by simp⟩
      have hT := s6 _ _ (hP3 i a _ ha hq)
      have mq := List.mem_of_getElem? hq
      have tk : qs.take (i + 1) = qs.take i ++ [(p, kk)] := by rw [List.take_succ, hq]; rfl
      have tl : ts.length ≤ 100 := by
        have := congrArg List.length tf
        rw [List.length_map, List.length_map, List.length_take] at this
        omega
      have jll : (js.map V.ref).length ≤ 100 := by rw [List.length_map]; omega
      have hQ6 := s6 _ _ hQ1
      show "go"
      refine lcl_acc (fun j acc H1 => Same H' H1 ∧ ∃ hs : List Nat, acc = nI hs ∧ ∀ h, h ∈ hs ↔ (p, h) ∈ rs.take j) (SqL.of hQ6) (by rw [List.length_map]; omega) ⟨Same.refl _, [], rfl, fun h => by simp⟩ (fun j acc H1 q => SqL.of (q.1 _ _ hQ6)) ?_ ?_ ?_
      · rintro D hD j acc H1 H2 s2 ⟨s1, q⟩
        exact ⟨fun b o e => s2 _ _ (ne_of_none e hD) (s1 _ _ e), q⟩
      · rintro j x acc H1 hx al ⟨s1, hs, rfl, hm⟩ Z kZ kN
        rw [List.getElem?_map] at hx
        obtain ⟨b, hb, rfl⟩ := Option.map_eq_some_iff.mp hx
        have jlt := (List.getElem?_eq_some_iff.mp hb).1
        obtain ⟨⟨r, h⟩, hr⟩ : ∃ q, rs[j]? = some q := ⟨rs[j]'(by omega), by simp⟩
        have hT1 := s1 _ _ (s6 _ _ (hQ3 j b _ hb hr))
        have rk : rs.take (j + 1) = rs.take j ++ [(r, h)] := by rw [List.take_succ, hr]; rfl
        refine g_lctt (σ' := [some (.ref P), some (.ref Q2), some (.ref J), some (.int (p : Int)), some (.int (kk : Int)), v5, none, none, none]) rfl ?_
        show "go"
        refine lce_2 (fun e => ?_) (fun e => ?_)
        · show "go"
          have e2 : r = p := Int.ofNat.inj e
          subst e2
          refine kZ _ _ (fun a u _ q => q) ⟨s1, hs ++ [h], by rw [nI_snoc], fun z => ?_⟩
          rw [rk, List.mem_append, List.mem_append, hm, List.mem_singleton, List.mem_singleton]
          exact or_congr_right ⟨fun q => by rw [q], fun q => (Prod.mk.inj q).2⟩
        · refine kN _ (fun a u _ q => q) ⟨s1, hs, rfl, fun z => ?_⟩
          rw [rk, List.mem_append, hm, List.mem_singleton]
          exact ⟨.inl, fun q => q.elim id fun q => absurd (by rw [(Prod.mk.inj q).1]) e⟩
      rintro D acc HD fD al ⟨sD, hs, rfl, hm⟩ hD
      rw [List.length_map, hQ2, List.take_length] at hm
      have hsl : (nI hs).length ≤ 100 := by rw [List.length_map] at al ⊢; rw [List.length_map] at al; omega
      show "go"
      rename_i L HL fL sL hL M HM fM sM hM
      have hM2 : HM M = some (.lst (((kk :: hs).map fun d : Nat => (d : Int)).map V.int)) := by rw [hM, List.map_map]; rfl
      refine ⟨M, _, rfl, SqL.of hM2, by simp, fun m hmm hmx => ?_⟩
      obtain ⟨w, hw, rfl⟩ := List.mem_map.mp hmm
      have wmax : ∀ h ∈ kk :: hs, h ≤ w := fun h mh => by
        have := hmx _ (List.mem_map.mpr ⟨h, mh, rfl⟩)
        omega
      have wmem : (p, w) ∈ qs ∨ (p, w) ∈ rs := by
        rcases List.mem_cons.mp hw with rfl | hw
        · exact .inl mq
        · exact .inr ((hm w).mp hw)
      have tM : Hld (Same H' HM) := ⟨(sD.trans sL).trans sM⟩
      have hJM := tM.out _ _ hJ2
      clear sD sL sM
      show "go"
      rename_i A HA fA sA hA HB sB hB
      have hJA := sA _ _ hJM
      have tA : Same H' HA := tM.out.trans sA
      have neJ : ∀ {a : Addr} {xs : List V}, HA a = some (.tup xs) → a ≠ J := fun {a xs} e z => by rw [z, hJA] at e; cases e
      have snoc : ∀ (i : Nat) (a : Addr) (q : Nat × Nat), (js ++ [A])[i]? = some a → (ts ++ [(p, w)])[i]? = some q → HB a = some (.tup [.int (q.1 : Int), .int (q.2 : Int)]) := by
        obtain ⟨as2, z1, z2, z3⟩ := (Prs.snoc jl (fun i a q e1 e2 => tA _ _ (j3 i a q e1 e2)) hA sB hJA hB).ob
        rw [hB] at z1
        have e : as2 = js ++ [A] := by
          have z4 : (js ++ [A]).map V.ref = as2.map V.ref := by rw [List.map_append]; exact HO.lst.inj (Option.some.inj z1)
          exact (List.map_inj_right (fun a b q => V.ref.inj q)).mp z4.symm
        subst e
        exact z3
      refine ⟨SB.same (s6.trans tA) fJ sB, js ++ [A], ts ++ [(p, w)], _, _, _, rfl, by rw [hB, List.map_append]; rfl, by rw [List.length_append, List.length_append, jl]; rfl, snoc, by rw [tk, List.map_append, List.map_append, tf]; rfl, fun t m => ?_, fun q m => ?_, fun r m z => ?_⟩
      · rcases List.mem_append.mp m with m | m
        · exact tm t m
        · rw [List.mem_singleton.mp m]; exact wmem
      · rw [tk] at m
        rcases List.mem_append.mp m with m | m
        · obtain ⟨t, mt, e⟩ := tq q m
          exact ⟨t, List.mem_append_left _ mt, e⟩
        · rw [List.mem_singleton.mp m]
          exact ⟨(p, w), List.mem_append_right _ (List.mem_singleton.mpr rfl), rfl, wmax kk List.mem_cons_self⟩
      · rw [tk, List.map_append] at z
        rcases List.mem_append.mp z with z | z
        · obtain ⟨t, mt, e⟩ := tr r m z
          exact ⟨t, List.mem_append_left _ mt, e⟩
        · have er : r.1 = p := List.mem_singleton.mp z
          refine ⟨(p, w), List.mem_append_right _ (List.mem_singleton.mpr rfl), er.symm, wmax r.2 (List.mem_cons_of_mem _ ((hm r.2).mpr ?_))⟩
          rw [← er]
          exact m
    · rintro σ' H' ⟨s6, js, ts, v3, v4, v5, rfl, hJ2, jl, j3, tf, tm, tq, tr⟩
      rw [List.length_map, hP2, List.take_length] at tf tq tr
      have hP6 := s6 _ _ hP1
      have hQ6 := s6 _ _ hQ1
      have tl : ts.length ≤ 100 := by
        have := congrArg List.length tf
        rw [List.length_map, List.length_map] at this
        omega
      show "go"
      refine lc_map (qs.map fun q => V.int (q.1 : Int)) (SqL.of hP6) (by rw [List.length_map, List.length_map, hP2]) (by rw [List.length_map]; omega) ?_ ?_
      · intro j x y hx hy H1 s1 R kR
        rw [List.getElem?_map] at hx hy
        obtain ⟨a, ha, rfl⟩ := Option.map_eq_some_iff.mp hx
        obtain ⟨q, hq, rfl⟩ := Option.map_eq_some_iff.mp hy
        have hT1 := s1 _ _ (s6 _ _ (hP3 j a q ha hq))
        refine g_lctt (σ' := [some (.ref P), some (.ref Q2), some (.ref J), v3, v4, v5, none, none, none]) rfl ?_
        show "go"
        exact kR _ (Same.refl _)
      intro D HD fD sD hD
      have hD2 : HD D = some (.lst ((qs.map Prod.fst).map fun d : Nat => V.int (d : Int))) := by rw [hD, List.map_map]; rfl
      have hQD := sD _ _ hQ6
      have hJD := sD _ _ hJ2
      show "go"
      refine lcl_accD (fun D5 j acc H1 => Same HD H1 ∧ ∃ (cs : List Addr) (us : List (Nat × Nat)), acc = cs.map V.ref ∧ cs.length = us.length ∧ (∀ (i : Nat) (a : Addr) (q : Nat × Nat), cs[i]? = some a → us[i]? = some q → H1 a = some (.tup [.int (q.1 : Int), .int (q.2 : Int)])) ∧ us.Sublist (rs.take j) ∧ (∀ u ∈ us, u.1 ∉ qs.map Prod.fst) ∧ (∀ r ∈ rs.take j, r.1 ∉ qs.map Prod.fst → r ∈ us)) (SqL.of hQD) (by rw [List.length_map]; omega) (fun D5 _ H5 s5 _ => ⟨s5, [], [], rfl, rfl, fun i a q e => (by cases e), List.nil_sublist _, fun t m => absurd m List.not_mem_nil, fun t m => (by simp at m)⟩) (fun D5 j acc H1 _ q => SqL.of (q.1 _ _ hQD)) ?_ ?_
      · rintro D5 hD5 j x acc H1 hx al eD5 ⟨s1, cs, us, rfl, cl, c3, us1, us2, us3⟩ Z kZ kN
        rw [List.getElem?_map] at hx
        obtain ⟨b, hb, rfl⟩ := Option.map_eq_some_iff.mp hx
        have jlt := (List.getElem?_eq_some_iff.mp hb).1
        obtain ⟨⟨r, h⟩, hr⟩ : ∃ q, rs[j]? = some q := ⟨rs[j]'(by omega), by simp⟩
        have hT1 := s1 _ _ (sD _ _ (s6 _ _ (hQ3 j b _ hb hr)))
        have hK1 := s1 _ _ hD2
        have rk : rs.take (j + 1) = rs.take j ++ [(r, h)] := by rw [List.take_succ, hr]; rfl
        refine g_lctt (σ' := [some (.ref P), some (.ref Q2), some (.ref J), none, none, v5, some (.ref D), none, none]) rfl ?_
        show "go"
        refine o_ninN hK1 ?_
        show "go"
        refine lce_n2 (fun e => ?_) (fun e => ?_)
        · show "go"
          rename_i A HA fA sA hA
          have eDA := sA _ _ eD5
          refine kZ _ _ eDA fun H5 sb5 e5 => ⟨fun b o q => sb5 _ _ (ne_of_none q hD5) (sA _ _ (s1 _ _ q)), cs ++ [A], us ++ [(r, h)], by rw [List.map_append]; rfl, by rw [List.length_append, List.length_append, cl]; rfl, ?_, by rw [rk]; exact us1.append (List.Sublist.refl _), fun u m => ?_, fun u m z => ?_⟩
          · obtain ⟨as2, z1, z2, z3⟩ := (Prs.snoc cl (fun i a q e1 e2 => sA _ _ (c3 i a q e1 e2)) hA sb5 eDA e5).ob
            rw [e5] at z1
            have e6 : as2 = cs ++ [A] := by
              have z4 : (cs ++ [A]).map V.ref = as2.map V.ref := by rw [List.map_append]; exact HO.lst.inj (Option.some.inj z1)
              exact (List.map_inj_right (fun a b q => V.ref.inj q)).mp z4.symm
            subst e6
            exact z3
          · rcases List.mem_append.mp m with m | m
            · exact us2 u m
            · rw [List.mem_singleton.mp m]; exact e
          · rw [rk] at m
            rcases List.mem_append.mp m with m | m
            · exact List.mem_append_left _ (us3 u m z)
            · exact List.mem_append_right _ m
        · refine kN _ eD5 ⟨s1, cs, us, rfl, cl, c3, by rw [rk]; exact us1.trans (List.sublist_append_left _ _), us2, fun u m z => ?_⟩
          rw [rk] at m
          rcases List.mem_append.mp m with m | m
          · exact us3 u m z
          · rw [List.mem_singleton.mp m] at z
            exact absurd e z
      rintro Y acc HY fY al ⟨sY, cs, us, rfl, cl, c3, us1, us2, us3⟩ hY
      rw [List.length_map, hQ2, List.take_length] at us1 us3
      have hJY := sY _ _ hJD
      have ul := us1.length_le
      refine Or.inr (Or.inl (o_cat hJY hY (by rw [List.length_map, List.length_map]; omega) ?_))
      intro X HX fX sX hX
      have tX : Same H HX := ((s6.trans sD).trans sY).trans sX
      obtain ⟨pt, nt⟩ := join_ok k1 k2 tf tm tq tr us1 us2 us3
      show "go"
      exact k X (ts ++ us) HX ⟨Same.back ((s6.trans sD).trans sY) fX.out⟩ tX (Prs.app jl (fun i a q e1 e2 => sY _ _ (sD _ _ (j3 i a q e1 e2))) cl c3 sX hX) pt nt
/-! #### _law_told_right: 0 one, 1 other, 2 both, 3 calendar, 4 number, 5 told, 6 sizes, 7 parts, 8 wide, 9 due, 10 divisor, 11 here, 12 there, 13 odd, 14 size -/
def sp__law_told_right (T : Txt K mg) : Sp := fun vs H Q _ => ∃ (o : Addr) (b : Bool) (N : Nat) (cc ce : List Nat) (R1 R2 : Addr) (m1 xl1 n1 m2 xl2 n2 : Nat) (qs1 qs2 : List (Nat × Nat)) (ds1 cs1 xs1 ds2 cs2 xs2 : List Nat), vs = [.ref R1, .ref R2, .bl b, .ref o] ∧ (LSet H R1 qs1 ds1 cs1 xs1) ∧ (LOk m1 (10 ^ 12) xl1 n1 qs1 ds1 cs1 xs1) ∧ (LSet H R2 qs2 ds2 cs2 xs2) ∧ (LOk m2 (10 ^ 12) xl2 n2 qs2 ds2 cs2 xs2) ∧ (Cal T.C_Calendar H o N cc ce) ∧ (N ∣ Nat.lcm n1 n2) ∧ (∀ z, Nat.gcd z N ∈ cc ↔ Cmb b (Nat.gcd z n1 ∈ cs1) (Nat.gcd z n2 ∈ cs2)) ∧ (∀ z : Nat, z ∈ ce ↔ (z ∈ xs1 ∨ z ∈ xs2) ∧ ¬ (Cmb b (InC n1 cs1 xs1 (z : Int)) (InC n2 cs2 xs2 (z : Int)) ↔ Cmb b (Nat.gcd z n1 ∈ cs1) (Nat.gcd z n2 ∈ cs2))) ∧ (cc.length ≤ 1000) ∧ (ce.length ≤ 1000) ∧ (m1 * m2 ≤ 1000) ∧ (xl1 ≤ 100) ∧ (xl2 ≤ 100) ∧ ∀ H', Same H H' → Q (.bl true) H'
theorem len__law_told_right {vs H Q E} (T : Txt K mg) (h : sp__law_told_right T vs H Q E) : vs.length = 4 := by obtain ⟨o, b, N, cc, ce, R1, R2, m1, xl1, n1, m2, xl2, n2, qs1, qs2, ds1, cs1, xs1, ds2, cs2, xs2, rfl, _⟩ := h; rfl
theorem use__law_told_right {T : Txt K mg} {H : Hp} {Q : VK} {E : XK} {o : Addr} {b : Bool} {N : Nat} {cc ce : List Nat} {R1 R2 : Addr} {m1 xl1 n1 m2 xl2 n2 : Nat} {qs1 qs2 : List (Nat × Nat)} {ds1 cs1 xs1 ds2 cs2 xs2 : List Nat} (g1 : LSet H R1 qs1 ds1 cs1 xs1) (o1 : LOk m1 (10 ^ 12) xl1 n1 qs1 ds1 cs1 xs1) (g2 : LSet H R2 qs2 ds2 cs2 xs2) (o2 : LOk m2 (10 ^ 12) xl2 n2 qs2 ds2 cs2 xs2) (c1 : Cal T.C_Calendar H o N cc ce) (dvL : N ∣ Nat.lcm n1 n2) (reg : ∀ z, Nat.gcd z N ∈ cc ↔ Cmb b (Nat.gcd z n1 ∈ cs1) (Nat.gcd z n2 ∈ cs2)) (ex : ∀ z : Nat, z ∈ ce ↔ (z ∈ xs1 ∨ z ∈ xs2) ∧ ¬ (Cmb b (InC n1 cs1 xs1 (z : Int)) (InC n2 cs2 xs2 (z : Int)) ↔ Cmb b (Nat.gcd z n1 ∈ cs1) (Nat.gcd z n2 ∈ cs2))) (ccl : cc.length ≤ 1000) (cel : ce.length ≤ 1000) (b1 : m1 * m2 ≤ 1000) (b2 : xl1 ≤ 100) (b3 : xl2 ≤ 100) (k : ∀ H', Same H H' → Q (.bl true) H') : sp__law_told_right T [.ref R1, .ref R2, .bl b, .ref o] H Q E := ⟨o, b, N, cc, ce, R1, R2, m1, xl1, n1, m2, xl2, n2, qs1, qs2, ds1, cs1, xs1, ds2, cs2, xs2, rfl, g1, o1, g2, o2, c1, dvL, reg, ex, ccl, cel, b1, b2, b3, k⟩
local macro_rules | `(tactic| show "own") => `(tactic| (((with_reducible refine' use__law_told_right ?s1 ?s2 ?s3 ?s4 ?s5 ?s6 ?s7 ?s8 ?s9 ?s10 ?s11 ?s12 ?s13 ?nxt); (case s1 => (show "lset")); (case s2 => (assumption)); (case s3 => (show "lset")); (case s4 => (assumption)); (case s5 => (show "cal")); (case s6 => (assumption)); (case s7 => (assumption)); (case s8 => (assumption)); (case s9 => (omega)); (case s10 => (omega)); (case s11 => (first | assumption | decide)); (case s12 => (first | assumption | decide)); (case s13 => (first | assumption | decide)); (case' nxt => skip)); intro _ _))
theorem toldS {T : Txt K mg} {H : Hp} {Q : VK} {E : XK} {o : Addr} {b : Bool} {S : Int → Prop} {m B L : Nat} {R1 R2 : Addr} {m1 xl1 n1 m2 xl2 n2 : Nat} {qs1 qs2 : List (Nat × Nat)} {ds1 cs1 xs1 ds2 cs2 xs2 : List Nat} (g1 : LSet H R1 qs1 ds1 cs1 xs1) (o1 : LOk m1 (10 ^ 12) xl1 n1 qs1 ds1 cs1 xs1) (g2 : LSet H R2 qs2 ds2 cs2 xs2) (o2 : LOk m2 (10 ^ 12) xl2 n2 qs2 ds2 cs2 xs2) (c1 : CalS T.C_Calendar H o S m B L) (hm : m ≤ 1000) (hl : L ≤ 1000) (b1 : m1 * m2 ≤ 1000) (b2 : xl1 ≤ 100) (b3 : xl2 ≤ 100) (hS : ∀ z : Int, S z ↔ Cmb b (InC n1 cs1 xs1 z) (InC n2 cs2 xs2 z)) (k : ∀ H', Same H H' → Q (.bl true) H') : sp__law_told_right T [.ref R1, .ref R2, .bl b, .ref o] H Q E := by
  obtain ⟨N, cc, ce, c, f, _, el, hi⟩ := c1.ob
  obtain ⟨x, y, z⟩ := told_of (b := b) o1.ci.n1 o2.ci.n1 (fun z m => m.elim (fun q => (o1.ci.xp z q).1) fun q => (o2.ci.xp z q).1) c.ok (fun z => (hi z).trans (hS z))
  exact use__law_told_right g1 o1 g2 o2 c x y z (Nat.le_trans (f cc (c.ok.cu.imp fun {a b} q => Nat.ne_of_lt q) c.ok.cd) hm) (Nat.le_trans el hl) b1 b2 b3 k
local macro_rules | `(tactic| show "cmb") => `(tactic| (intro z; unfold Cmb; simp))
local macro_rules | `(tactic| show "step2") => `(tactic| (((with_reducible (with_reducible refine' toldS ?s1 ?s2 ?s3 ?s4 ?s5 ?s6 ?s7 ?s8 ?s9 ?s10 ?s11 ?nxt)); (case s1 => (show "lset")); (case s2 => (assumption)); (case s3 => (show "lset")); (case s4 => (assumption)); (case s5 => (show "cals")); (case s6 => (decide)); (case s7 => (decide)); (case s8 => (decide)); (case s9 => (decide)); (case s10 => (decide)); (case s11 => (show "cmb")); (case' nxt => skip)); intro _ _))

theorem ok__law_told_right (T : Txt K mg) : FnOk P w K mg base CX0 4 T.f__law_told_right T.fd__law_told_right ["one", "other", "both", "calendar"] (sp__law_told_right T) := by
  have G_Calendar_divisors : FnOk P w K mg base CX0 1 T.f_Calendar_divisors T.fd_Calendar_divisors ["self"] (sp_Calendar_divisors T) := ok_Calendar_divisors T
  have G_Calendar_extra : FnOk P w K mg base CX0 1 T.f_Calendar_extra T.fd_Calendar_extra ["self"] (sp_Calendar_extra T) := ok_Calendar_extra T
  have G_Calendar_number : FnOk P w K mg base CX0 1 T.f_Calendar_number T.fd_Calendar_number ["self"] (sp_Calendar_number T) := ok_Calendar_number T
  have G__law_classes_right : FnOk P w K mg base CX0 2 T.f__law_classes_right T.fd__law_classes_right ["parts", "wide", "due", "number", "told"] (sp__law_classes_right T) := ok__law_classes_right T
  have G__law_divisors : FnOk P w K mg base CX0 1 T.f__law_divisors T.fd__law_divisors ["parts"] (sp__law_divisors T) := ok__law_divisors T
  have G__law_gcd : FnOk P w K mg base CX0 1 T.f__law_gcd T.fd__law_gcd ["one", "other"] (sp__law_gcd T) := ok__law_gcd T
  have G__law_in : FnOk P w K mg base CX0 3 T.f__law_in T.fd__law_in ["size", "one"] (sp__law_in T) := ok__law_in T
  have G__law_integers : FnOk P w K mg base CX0 1 T.f__law_integers T.fd__law_integers ["told"] (sp__law_integers T) := ok__law_integers T
  have G__law_is_integer : FnOk P w K mg base CX0 1 T.f__law_is_integer T.fd__law_is_integer ["told"] (sp__law_is_integer T) := ok__law_is_integer T
  have G__law_join : FnOk P w K mg base CX0 1 T.f__law_join T.fd__law_join ["parts", "others"] (sp__law_join T) := ok__law_join T
  refine T.F__law_told_right.ok sc__law_told_right (fun vs H Q E h => ?_) (fun cdv A outer s H vs Q E hr h => ?_)
  · exact len__law_told_right T h
  · refine ⟨_, (pss_cons (ps_par3 (i := 4) (j := 5) (l := 6) (by rfl) sc__law_told_right.nd rfl rfl rfl (by decide) (by decide) (by decide) rfl rfl rfl (pa_cons (pe_prop (pv 3) T.cl_Calendar T.pr_Calendar_number G_Calendar_number (hr.mono (by decide)) T.b_Calendar_number .nil pass0 rfl) (pa_cons (pe_prop (pv 3) T.cl_Calendar T.pr_Calendar_divisors G_Calendar_divisors (hr.mono (by decide)) T.b_Calendar_divisors .nil pass0 rfl) (pa_cons (pe_prop (pv 3) T.cl_Calendar T.pr_Calendar_extra G_Calendar_extra (hr.mono (by decide)) T.b_Calendar_extra .nil pass0 rfl) pa_nil))) (by rfl))
    (pss_cons (ps_if (PW.pt (pw_or (pt_not (ptTK (K := K) rfl (pe_call G__law_is_integer (hr.mono (by decide)) rfl T.g__law_is_integer T.F__law_is_integer.kp T.b__law_is_integer .nil pass0 (pa_cons (pv 4) pa_nil)) (by intro _; rfl))) (pw_or (pt_not (ptTK (K := K) rfl (pe_call G__law_integers (hr.mono (by decide)) rfl T.g__law_integers T.F__law_integers.kp T.b__law_integers .nil pass0 (pa_cons (pv 5) pa_nil)) (by intro _; rfl))) (pw_or1 (pt_not (ptTK (K := K) rfl (pe_call G__law_integers (hr.mono (by decide)) rfl T.g__law_integers T.F__law_integers.kp T.b__law_integers .nil pass0 (pa_cons (pv 6) pa_nil)) (by intro _; rfl))))))) (pss_one (ps_ret pe_bl)) pss_nil)
    (pss_cons (ps_set (i := 7) sc__law_told_right.nd rfl (Or.inl rfl) (pe_call G__law_join (hr.mono (by decide)) rfl T.g__law_join T.F__law_join.kp T.b__law_join .nil pass0 (pa_cons (pe_ix (ix_seqK (K := K) rfl) (pv 0) pe_int (fun _ _ => rfl)) (pa_cons (pe_ix (ix_seqK (K := K) rfl) (pv 1) pe_int (fun _ _ => rfl)) pa_nil))))
    (pss_cons (ps_set (i := 8) sc__law_told_right.nd rfl (Or.inl rfl) (pe_call G__law_divisors (hr.mono (by decide)) rfl T.g__law_divisors T.F__law_divisors.kp T.b__law_divisors .nil pass0 (pa_cons (pv 7) pa_nil)))
    (pss_cons (ps_set (i := 9) sc__law_told_right.nd rfl (Or.inl rfl) (pe_lst pa_nil))
    (pss_cons (ps_for PassesOwn.never rfl (pi_listK (K := K) rfl (pv 8)) (pg_name (i := 10) sc__law_told_right.nd rfl (Or.inl rfl)) (pss_cons (ps_set (i := 11) sc__law_told_right.nd rfl (Or.inl rfl) (pe_cmpR (op_inK (K := K) rfl) (pe_call G__law_gcd (hr.mono (by decide)) rfl T.g__law_gcd T.F__law_gcd.kp T.b__law_gcd .nil pass0 (pa_cons (pv 10) (pa_cons (pe_ix (ix_seqK (K := K) rfl) (pe_ix (ix_seqK (K := K) rfl) (pv 0) pe_int (fun _ _ => rfl)) (pe_un un_neg pe_int) (fun _ _ => rfl)) pa_nil))) (pe_ix (ix_seqK (K := K) rfl) (pv 0) pe_int (fun _ _ => rfl)) (by rfl)))
    (pss_cons (ps_set (i := 12) sc__law_told_right.nd rfl (Or.inl rfl) (pe_cmpR (op_inK (K := K) rfl) (pe_call G__law_gcd (hr.mono (by decide)) rfl T.g__law_gcd T.F__law_gcd.kp T.b__law_gcd .nil pass0 (pa_cons (pv 10) (pa_cons (pe_ix (ix_seqK (K := K) rfl) (pe_ix (ix_seqK (K := K) rfl) (pv 1) pe_int (fun _ _ => rfl)) (pe_un un_neg pe_int) (fun _ _ => rfl)) pa_nil))) (pe_ix (ix_seqK (K := K) rfl) (pv 1) pe_int (fun _ _ => rfl)) (by rfl)))
    (pss_one (ps_if (PW.pt (pw_or (PW.pt (pw_and (ptTK (K := K) rfl (pv 11) (by intro _; rfl)) (pw_and1 (ptTK (K := K) rfl (pv 12) (by intro _; rfl))))) (pw_or1 (PW.pt (pw_and (pt_not (ptTK (K := K) rfl (pv 2) (by intro _; rfl))) (pw_and1 (PW.pt (pw_or (ptTK (K := K) rfl (pv 11) (by intro _; rfl)) (pw_or1 (ptTK (K := K) rfl (pv 12) (by intro _; rfl))))))))))) (pss_one (ps_expr (pe_bmK (K := K) rfl PySem.F.plainAttrs_list PySem.F.slot_list_append PySem.F.type_list_append mt_append (pv 9) (pa_cons (pv 10) pa_nil)))) pss_nil)))))
    (pss_cons (ps_if (PW.pt (pw_or (pt_cmpR (op_neK (K := K) rfl hr.units) (pv 5) (pe_sortSetG (K := K) rfl (by rfl) T.z_sorted (by rfl) T.z_set (pv 5)) (nomark _)) (pw_or1 (pt_not (ptTK (K := K) rfl (pe_call G__law_classes_right (hr.mono (by decide)) rfl T.g__law_classes_right T.F__law_classes_right.kp T.b__law_classes_right .nil pass0 (pa_cons (pv 7) (pa_cons (pv 8) (pa_cons (pv 9) (pa_cons (pv 4) (pa_cons (pv 5) pa_nil)))))) (by intro _; rfl)))))) (pss_one (ps_ret pe_bl)) pss_nil)
    (pss_cons (ps_set (i := 13) sc__law_told_right.nd rfl (Or.inl rfl) (pe_lst pa_nil))
    (pss_cons (ps_for PassesOwn.never rfl (pi_listK (K := K) rfl (pe_sortSetG (K := K) rfl (by rfl) T.z_sorted (by rfl) T.z_set (pe_op (op_addK (K := K) rfl) (pe_ix (ix_seqK (K := K) rfl) (pv 0) pe_int (fun _ _ => rfl)) (pe_ix (ix_seqK (K := K) rfl) (pv 1) pe_int (fun _ _ => rfl))))) (pg_name (i := 14) sc__law_told_right.nd rfl (Or.inl rfl)) (pss_cons (ps_par (i := 11) (j := 12) (by rfl) sc__law_told_right.nd rfl rfl (by decide) rfl rfl (pa_cons (pe_call G__law_in (hr.mono (by decide)) rfl T.g__law_in T.F__law_in.kp T.b__law_in .nil pass0 (pa_cons (pv 14) (pa_cons (pv 0) pa_nil))) (pa_cons (pe_call G__law_in (hr.mono (by decide)) rfl T.g__law_in T.F__law_in.kp T.b__law_in .nil pass0 (pa_cons (pv 14) (pa_cons (pv 1) pa_nil))) pa_nil)) (by rfl))
    (pss_one (ps_if (pt_cmpR (op_neK (K := K) rfl hr.units) (pe_or (pe_and (pv 11) (pe_one (pv 12))) (pe_one (pe_and (pe_notTK (K := K) rfl (pv 2)) (pe_one (pe_or (pv 11) (pe_one (pv 12))))))) (pe_cmpR (op_inK (K := K) rfl) (pe_call G__law_gcd (hr.mono (by decide)) rfl T.g__law_gcd T.F__law_gcd.kp T.b__law_gcd .nil pass0 (pa_cons (pv 14) (pa_cons (pe_ix (ix_seqK (K := K) rfl) (pv 8) (pe_un un_neg pe_int) (fun _ _ => rfl)) pa_nil))) (pv 9) (by rfl)) (nomark _)) (pss_one (ps_expr (pe_bmK (K := K) rfl PySem.F.plainAttrs_list PySem.F.slot_list_append PySem.F.type_list_append mt_append (pv 13) (pa_cons (pv 14) pa_nil)))) pss_nil))))
    (pss_one (ps_ret (pe_cmpR (op_eqK (K := K) rfl hr.units) (pv 6) (pv 13) (nomark _))))))))))))), ?_⟩
    clear hr
    obtain ⟨o, b, N, cc, ce, R1, R2, m1, xl1, n1, m2, xl2, n2, qs1, qs2, ds1, cs1, xs1, ds2, cs2, xs2, rfl, g1, o1, g2, o2, c1, dvL, reg, ex, ccl, cel, b1, b2, b3, k⟩ := h
    refine st_eq (σ' := [some _, some _, some _, some _, none, none, none, none, none, none, none, none, none, none, none]) rfl ?_
    obtain ⟨P, D, C_, X, a1, a2, a3, a4, a5⟩ := g1.ob
    obtain ⟨P2, D2, C2, X2, b1', b2', b3', b4, b5⟩ := g2.ob
    obtain ⟨dxa, u1, u2, oa, _, _⟩ := c1.ob
    have can := c1.ok
    have l1 := o1.ci.xn
    have l2 := o2.ci.xn
    have w1 := o1.nn
    have w2 := o2.nn
    have p1 := o1.pt
    have p2 := o2.pt
    have q1 : qs1.length ≤ 100 := parts_len p1 (by have := o1.ci.nm; omega)
    have q2 : qs2.length ≤ 100 := parts_len p2 (by have := o2.ci.nm; omega)
    show "go"
    rename_i DD HD fD sD hDD EE HE fE sE hEE J ts HJ fJ sJ hJ pts jn
    have n0 := o1.ci.n1
    have n0' := o2.ci.n1
    have e1 := o1.ci.nm
    have e2 := o2.ci.nm
    have nuL : numP ts = Nat.lcm n1 n2 := by rw [jn, w1, w2]
    have few : Few (numP ts) (m1 * m2) := by rw [nuL]; exact Few.lcm n0 n0' o1.ci.few o2.ci.few
    have lcn : Nat.lcm n1 n2 ≤ n1 * n2 := Nat.le_of_dvd (Nat.mul_pos n0 n0') (Nat.lcm_dvd (Nat.dvd_mul_right _ _) (Nat.dvd_mul_left _ _))
    have nub : numP ts ≤ 10 ^ 24 := by rw [nuL]; exact Nat.le_trans lcn (Nat.le_trans (Nat.mul_le_mul e1 e2) (by decide))
    have mny : manyP ts ≤ 1000 := Nat.le_trans (pts.many few) b1
    have dv1 : n1 ∣ numP ts := by rw [nuL]; exact Nat.dvd_lcm_left _ _
    have dv2 : n2 ∣ numP ts := by rw [nuL]; exact Nat.dvd_lcm_right _ _
    have dvN : N ∣ numP ts := by rw [nuL]; exact dvL
    have tsl : ts.length ≤ 100 := parts_len pts nub
    have npos : 1 ≤ numP ts := pts.pos
    show "go"
    rename_i W ws HW fW sW hW hws wl K0 HK fK sK hK
    have tall : Same H HK := sD.trans (sE.trans (sJ.trans (sW.trans sK)))
    have fKH : L3.Fr H K0 := Fr.back (sD.trans (sE.trans (sJ.trans sW))) fK
    have t2 : Hld (Same H HK) := ⟨tall⟩
    have hWK := sK _ _ hW
    have hJK := (hJ.same sW).same sK
    have hDK := sK _ _ (sW _ _ (sJ _ _ (sE _ _ hDD)))
    have hEK := sK _ _ (sW _ _ (sJ _ _ hEE))
    have nW : W ≠ K0 := fun e => by rw [← e] at fK; have := fK.out; rw [hW] at this; cases this
    have nDD : DD ≠ K0 := fun e => by have z := sW _ _ (sJ _ _ (sE _ _ hDD)); rw [e, fK.out] at z; cases z
    have nEE : EE ≠ K0 := fun e => by have z := sW _ _ (sJ _ _ hEE); rw [e, fK.out] at z; cases z
    have nJ : J ≠ K0 := fun e => by obtain ⟨as, z1, _⟩ := hJ.ob; have z := sW _ _ z1; rw [e, fK.out] at z; cases z
    clear sD sE sJ sW sK tall hDD hEE hJ hW oa c1
    refine f_list (fun i σ' H' => SB K0 HK H' ∧ ∃ (kl : List Nat) (v10 v11 v12 : Option V), σ' = [some (.ref R1), some (.ref R2), some (.bl b), some (.ref o), some (.int (N : Int)), some (.ref DD), some (.ref EE), some (.ref J), some (.ref W), some (.ref K0), v10, v11, v12, none, none] ∧ H' K0 = some (.lst (nI kl)) ∧ (∀ d, d ∈ kl ↔ d ∈ ws.take i ∧ Cmb b (Nat.gcd d n1 ∈ cs1) (Nat.gcd d n2 ∈ cs2)) ∧ kl.length ≤ i) (SqL.of hWK) ⟨SB.refl _ _, [], _, _, _, rfl, hK, fun d => ⟨fun m => absurd m List.not_mem_nil, fun m => absurd m.1 List.not_mem_nil⟩, Nat.le_refl _⟩ (fun i σ' H' _ q => SqL.of (q.1 _ _ nW hWK)) ?_ ?_
    · rintro i e σ' H' hi ⟨s6, kl, v10, v11, v12, rfl, hK6, kin, kll⟩
      obtain ⟨d, rfl, hd⟩ := nI_at hi
      have il : i < ws.length := (List.getElem?_eq_some_iff.mp hd).1
      have tk : ws.take (i + 1) = ws.take i ++ [d] := take_at hd
      have t6 : Same H H' := SB.same t2.out fKH s6
      have a1' := t6 _ _ a1
      have a3' := t6 _ _ a3
      have a4' := t6 _ _ a4
      have c1' := t6 _ _ b1'
      have c3' := t6 _ _ b3'
      have c4' := t6 _ _ b4
      clear t6 t2
      have kll2 : (nI kl).length ≤ 1000 := by rw [List.length_map]; omega
      have yes : Cmb b (Nat.gcd d n1 ∈ cs1) (Nat.gcd d n2 ∈ cs2) → ∀ x, x ∈ kl ++ [d] ↔ x ∈ ws.take (i + 1) ∧ Cmb b (Nat.gcd x n1 ∈ cs1) (Nat.gcd x n2 ∈ cs2) := fun c x => by
        rw [tk, List.mem_append, List.mem_append, kin, List.mem_singleton]
        exact ⟨fun q => q.elim (fun q => ⟨.inl q.1, q.2⟩) fun q => ⟨.inr q, by rw [q]; exact c⟩, fun q => q.1.elim (fun m => .inl ⟨m, q.2⟩) .inr⟩
      have no : ¬ Cmb b (Nat.gcd d n1 ∈ cs1) (Nat.gcd d n2 ∈ cs2) → ∀ x, x ∈ kl ↔ x ∈ ws.take (i + 1) ∧ Cmb b (Nat.gcd x n1 ∈ cs1) (Nat.gcd x n2 ∈ cs2) := fun c x => by
        rw [tk, List.mem_append, kin, List.mem_singleton]
        exact ⟨fun q => ⟨.inl q.1, q.2⟩, fun q => q.1.elim (fun m => ⟨m, q.2⟩) fun m => absurd (m ▸ q.2) c⟩
      show "go"
      refine ix_l a3' (alast o1.ci.all o1.ci.n1) ?_
      show "go"
      rw [show gcdZ (d : Int) n1 = ((Nat.gcd d n1 : Nat) : Int) by rw [gcdZ_nat, Int.gcd_natCast_natCast]]
      refine o_inN a4' ?_
      show "go"
      refine ix_l c3' (alast o2.ci.all o2.ci.n1) ?_
      show "go"
      rw [show gcdZ (d : Int) n2 = ((Nat.gcd d n2 : Nat) : Int) by rw [gcdZ_nat, Int.gcd_natCast_natCast]]
      refine o_inN c4' ?_
      by_cases e1 : Nat.gcd d n1 ∈ cs1
      · by_cases e2 : Nat.gcd d n2 ∈ cs2
        · cases b with
          | true =>
            show "go"
            rename_i HP sP hP
            exact ⟨s6.trans sP, kl ++ [d], _, _, _, rfl, by rw [hP, nI_snoc], yes (.inl ⟨rfl, e1, e2⟩), by rw [List.length_append]; simp only [List.length_cons, List.length_nil]; omega⟩
          | false =>
            show "go"
            rename_i HP sP hP
            exact ⟨s6.trans sP, kl ++ [d], _, _, _, rfl, by rw [hP, nI_snoc], yes (.inr ⟨rfl, .inl e1⟩), by rw [List.length_append]; simp only [List.length_cons, List.length_nil]; omega⟩
        · cases b with
          | true =>
            show "go"
            exact ⟨s6, kl, _, _, _, rfl, hK6, no (fun c => by rcases c with ⟨x, y, z⟩ | ⟨x, y | y⟩ <;> first | exact absurd y e1 | exact absurd z e2 | exact absurd y e2 | cases x), by omega⟩
          | false =>
            show "go"
            rename_i HP sP hP
            exact ⟨s6.trans sP, kl ++ [d], _, _, _, rfl, by rw [hP, nI_snoc], yes (.inr ⟨rfl, .inl e1⟩), by rw [List.length_append]; simp only [List.length_cons, List.length_nil]; omega⟩
      · by_cases e2 : Nat.gcd d n2 ∈ cs2
        · cases b with
          | true =>
            show "go"
            exact ⟨s6, kl, _, _, _, rfl, hK6, no (fun c => by rcases c with ⟨x, y, z⟩ | ⟨x, y | y⟩ <;> first | exact absurd y e1 | exact absurd z e2 | exact absurd y e2 | cases x), by omega⟩
          | false =>
            show "go"
            rename_i HP sP hP
            exact ⟨s6.trans sP, kl ++ [d], _, _, _, rfl, by rw [hP, nI_snoc], yes (.inr ⟨rfl, .inr e2⟩), by rw [List.length_append]; simp only [List.length_cons, List.length_nil]; omega⟩
        · cases b with
          | true =>
            show "go"
            exact ⟨s6, kl, _, _, _, rfl, hK6, no (fun c => by rcases c with ⟨x, y, z⟩ | ⟨x, y | y⟩ <;> first | exact absurd y e1 | exact absurd z e2 | exact absurd y e2 | cases x), by omega⟩
          | false =>
            show "go"
            exact ⟨s6, kl, _, _, _, rfl, hK6, no (fun c => by rcases c with ⟨x, y, z⟩ | ⟨x, y | y⟩ <;> first | exact absurd y e1 | exact absurd z e2 | exact absurd y e2 | cases x), by omega⟩
    rintro σ' H' ⟨s6, kl, v10, v11, v12, rfl, hK6, kin, kll⟩
    rw [List.length_map, List.take_length] at kin
    have t6 : Same H H' := SB.same t2.out fKH s6
    have hW6 := s6 _ _ nW hWK
    have hJ6 : Prs H' J ts := hJK.sb s6 nJ hK
    have hD6 := s6 _ _ nDD hDK
    have hE6 := s6 _ _ nEE hEK
    have g16 := g1.same t6
    have g26 := g2.same t6
    have a16 := t6 _ _ a1
    have b16 := t6 _ _ b1'
    have a56 := t6 _ _ a5
    have b56 := t6 _ _ b5
    have tH6 : Hld (Same H H') := ⟨t6⟩
    have rg : ∀ d, d ∣ numP ts → (d ∈ kl ↔ Nat.gcd d N ∈ cc) := fun d m => by
      rw [kin, reg]
      exact ⟨fun q => q.2, fun q => ⟨(hws.iff d).mpr m, q⟩⟩
    clear t6 t2 s6 g1 g2 a1 a2 a3 a4 a5 b1' b2' b3' b4 b5 hJK hDK hEK hWK hK
    show "go"
    refine ⟨DD, cc.map fun d : Nat => (d : Int), rfl, SqL.of (by rw [List.map_map]; exact hD6), by rw [List.length_map]; omega, fun out p1 up1 mem1 hp1 => ?_⟩
    obtain ⟨es, rfl, eu, em⟩ := asc_nat up1 mem1
    obtain rfl := up_unique eu can.cu em
    have t8 : Same H' (upd H' p1 (.lst ((es.map fun d : Nat => (d : Int)).map V.int))) := same_upd hp1
    have h8 : (upd H' p1 (.lst ((es.map fun d : Nat => (d : Int)).map V.int))) p1 = some (.lst (nI es)) := by rw [upd_same, List.map_map]; rfl
    generalize upd H' p1 (.lst ((es.map fun d : Nat => (d : Int)).map V.int)) = H8 at *
    clear mem1 up1 hp1
    have hD8 := t8 _ _ hD6
    have hW8 := t8 _ _ hW6
    have hJ8 := hJ6.same t8
    have hK8 := t8 _ _ hK6
    have hE8 := t8 _ _ hE6
    have g18 := g16.same t8
    have g28 := g26.same t8
    have a18 := t8 _ _ a16
    have b18 := t8 _ _ b16
    have a58 := t8 _ _ a56
    have b58 := t8 _ _ b56
    have tH8 : Hld (Same H H8) := ⟨tH6.out.trans t8⟩
    clear t8 tH6 hD6 hW6 hJ6 hK6 hE6 g16 g26 a16 b16 a56 b56
    show "go"
    rename_i H9 s9 OD HOD fO sO hO LX HX fX sX hX
    rw [← List.map_append] at hX
    refine ⟨LX, (xs1 ++ xs2).map fun d : Nat => (d : Int), rfl, SqL.of (by rw [List.map_map]; exact hX), by rw [List.length_map, List.length_append]; omega, fun out p2 up2 mem2 hp2 => ?_⟩
    obtain ⟨zs, rfl, zu, zm⟩ := asc_nat up2 mem2
    have t7 : Same HX (upd HX p2 (.lst ((zs.map fun d : Nat => (d : Int)).map V.int))) := same_upd hp2
    have h7 : (upd HX p2 (.lst ((zs.map fun d : Nat => (d : Int)).map V.int))) p2 = some (.lst (nI zs)) := by rw [upd_same, List.map_map]; rfl
    have nOD : p2 ≠ OD := (ne_of_none (sX _ _ hO) hp2).symm
    generalize upd HX p2 (.lst ((zs.map fun d : Nat => (d : Int)).map V.int)) = H7 at *
    clear mem2 up2 hp2
    have s89 : Same H8 H7 := s9.trans (sO.trans (sX.trans t7))
    have fOH : L3.Fr H8 OD := Fr.back s9 fO
    have nf : ∀ {A : Addr} {o : HO}, H8 A = some o → A ≠ OD := fun z => ne_new' fOH z
    have hW7 := s89 _ _ hW8
    have hK7 := s89 _ _ hK8
    have hE7 := s89 _ _ hE8
    have g17 := g18.same s89
    have g27 := g28.same s89
    have hO7 := t7 _ _ (sX _ _ hO)
    have tH7 : Hld (Same H H7) := ⟨tH8.out.trans s89⟩
    have fOH0 : L3.Fr H OD := Fr.back tH8.out fOH
    have ap1 : LAp H7 R1 OD := g18.apf s89 fOH
    have ap2 : LAp H7 R2 OD := g28.apf s89 fOH
    have nWO := nf hW8
    have nKO := nf hK8
    have nEO := nf hE8
    have zl : zs.length ≤ 200 := by
      have := up_len zu fun x m => (zm x).mp m
      rw [List.length_append] at this
      omega
    clear s89 s9 sO sX t7 hW8 hK8 hE8 hD8 hJ8 g18 g28 a18 b18 a58 b58 tH8 hX hO nf
    refine f_list (fun i σ' H' => SB OD H7 H' ∧ ∃ (od : List Nat) (v10 v11 v12 v14 : Option V), σ' = [some (.ref R1), some (.ref R2), some (.bl b), some (.ref o), some (.int (N : Int)), some (.ref DD), some (.ref EE), some (.ref J), some (.ref W), some (.ref K0), v10, v11, v12, some (.ref OD), v14] ∧ H' OD = some (.lst (nI od)) ∧ (∀ d, d ∈ od ↔ d ∈ zs.take i ∧ d ∈ ce) ∧ od.Sublist (zs.take i)) (SqL.of h7) ⟨SB.refl _ _, [], _, _, _, _, rfl, hO7, fun d => ⟨fun m => absurd m List.not_mem_nil, fun m => absurd m.1 List.not_mem_nil⟩, List.nil_sublist _⟩ (fun i σ' H' _ q => SqL.of (q.1 _ _ nOD h7)) ?_ ?_
    · rintro i e σ' H' hi ⟨s6, od, v10, v11, v12, v14, rfl, hO6, oin, osb⟩
      obtain ⟨z, rfl, hz⟩ := nI_at hi
      have il : i < zs.length := (List.getElem?_eq_some_iff.mp hz).1
      have tk : zs.take (i + 1) = zs.take i ++ [z] := take_at hz
      have g16 := g17.sb ap1 s6 hO7
      have g26 := g27.sb ap2 s6 hO7
      have hW6 := s6 _ _ nWO hW7
      have hK6 := s6 _ _ nKO hK7
      have odl : (nI od).length ≤ 300 := by
        rw [List.length_map]
        have := osb.length_le
        rw [List.length_take] at this
        omega
      clear g17 g27 ap1 ap2
      have gk : ∀ {P' R' : Prop}, (Nat.gcd z n1 ∈ cs1 ↔ P') → True := fun _ => trivial
      clear gk
      have exz : z ∈ ce ↔ ¬ (Cmb b (InC n1 cs1 xs1 (z : Int)) (InC n2 cs2 xs2 (z : Int)) ↔ Nat.gcd z (numP ts) ∈ kl) := by
        rw [ex, rg _ (Nat.gcd_dvd_right _ _), gcd_gcd_n dvN, reg]
        exact ⟨fun q => q.2, fun q => ⟨List.mem_append.mp ((zm z).mp (List.mem_of_getElem? hz)), q⟩⟩
      have yes : z ∈ ce → (∀ x, x ∈ od ++ [z] ↔ x ∈ zs.take (i + 1) ∧ x ∈ ce) ∧ (od ++ [z]).Sublist (zs.take (i + 1)) := fun c => by
        rw [tk]
        refine ⟨fun x => ?_, osb.append (List.Sublist.refl _)⟩
        rw [List.mem_append, List.mem_append, oin, List.mem_singleton]
        exact ⟨fun q => q.elim (fun q => ⟨.inl q.1, q.2⟩) fun q => ⟨.inr q, by rw [q]; exact c⟩, fun q => q.1.elim (fun m => .inl ⟨m, q.2⟩) .inr⟩
      have no : ¬ z ∈ ce → (∀ x, x ∈ od ↔ x ∈ zs.take (i + 1) ∧ x ∈ ce) ∧ od.Sublist (zs.take (i + 1)) := fun c => by
        rw [tk]
        refine ⟨fun x => ?_, osb.trans (List.sublist_append_left _ _)⟩
        rw [List.mem_append, oin, List.mem_singleton]
        exact ⟨fun q => ⟨.inl q.1, q.2⟩, fun q => q.1.elim (fun m => ⟨m, q.2⟩) fun m => absurd (m ▸ q.2) c⟩
      clear ex reg rg kin
      show "go"
      by_cases e1 : InC n1 cs1 xs1 (z : Int)
      · by_cases e2 : InC n2 cs2 xs2 (z : Int)
        · cases b with
          | true =>
            rw [decide_eq_true e1, decide_eq_true e2]
            show "go"
            refine ix_l hW6 (alast hws npos) ?_
            show "go"
            rw [show gcdZ (z : Int) (numP ts) = ((Nat.gcd z (numP ts) : Nat) : Int) by rw [gcdZ_nat, Int.gcd_natCast_natCast]]
            refine o_inN hK6 ?_
            have cmb := (show Cmb true (InC n1 cs1 xs1 (z : Int)) (InC n2 cs2 xs2 (z : Int)) from (.inl ⟨rfl, e1, e2⟩))
            by_cases r : Nat.gcd z (numP ts) ∈ kl
            · have zn : ¬ z ∈ ce := fun q => (exz.mp q) ⟨fun _ => r, fun _ => cmb⟩
              rw [decide_eq_true r]
              show "go"
              exact ⟨s6, od, _, _, _, _, rfl, hO6, no zn⟩
            · have zy : z ∈ ce := exz.mpr fun q => r (q.mp cmb)
              rw [decide_eq_false r]
              show "go"
              rename_i HP sP hP
              exact ⟨s6.trans sP, od ++ [z], _, _, _, _, rfl, by rw [hP, nI_snoc], yes zy⟩
          | false =>
            rw [decide_eq_true e1, decide_eq_true e2]
            show "go"
            refine ix_l hW6 (alast hws npos) ?_
            show "go"
            rw [show gcdZ (z : Int) (numP ts) = ((Nat.gcd z (numP ts) : Nat) : Int) by rw [gcdZ_nat, Int.gcd_natCast_natCast]]
            refine o_inN hK6 ?_
            have cmb := (show Cmb false (InC n1 cs1 xs1 (z : Int)) (InC n2 cs2 xs2 (z : Int)) from (.inr ⟨rfl, .inl e1⟩))
            by_cases r : Nat.gcd z (numP ts) ∈ kl
            · have zn : ¬ z ∈ ce := fun q => (exz.mp q) ⟨fun _ => r, fun _ => cmb⟩
              rw [decide_eq_true r]
              show "go"
              exact ⟨s6, od, _, _, _, _, rfl, hO6, no zn⟩
            · have zy : z ∈ ce := exz.mpr fun q => r (q.mp cmb)
              rw [decide_eq_false r]
              show "go"
              rename_i HP sP hP
              exact ⟨s6.trans sP, od ++ [z], _, _, _, _, rfl, by rw [hP, nI_snoc], yes zy⟩
        · cases b with
          | true =>
            rw [decide_eq_true e1, decide_eq_false e2]
            show "go"
            refine ix_l hW6 (alast hws npos) ?_
            show "go"
            rw [show gcdZ (z : Int) (numP ts) = ((Nat.gcd z (numP ts) : Nat) : Int) by rw [gcdZ_nat, Int.gcd_natCast_natCast]]
            refine o_inN hK6 ?_
            have cmb := (show ¬ Cmb true (InC n1 cs1 xs1 (z : Int)) (InC n2 cs2 xs2 (z : Int)) from (fun c => by rcases c with ⟨x, y, z⟩ | ⟨x, y | y⟩ <;> first | exact absurd y e1 | exact absurd z e2 | exact absurd y e2 | cases x))
            by_cases r : Nat.gcd z (numP ts) ∈ kl
            · have zy : z ∈ ce := exz.mpr fun q => cmb (q.mpr r)
              rw [decide_eq_true r]
              show "go"
              rename_i HP sP hP
              exact ⟨s6.trans sP, od ++ [z], _, _, _, _, rfl, by rw [hP, nI_snoc], yes zy⟩
            · have zn : ¬ z ∈ ce := fun q => (exz.mp q) ⟨fun c => absurd c cmb, fun c => absurd c r⟩
              rw [decide_eq_false r]
              show "go"
              exact ⟨s6, od, _, _, _, _, rfl, hO6, no zn⟩
          | false =>
            rw [decide_eq_true e1, decide_eq_false e2]
            show "go"
            refine ix_l hW6 (alast hws npos) ?_
            show "go"
            rw [show gcdZ (z : Int) (numP ts) = ((Nat.gcd z (numP ts) : Nat) : Int) by rw [gcdZ_nat, Int.gcd_natCast_natCast]]
            refine o_inN hK6 ?_
            have cmb := (show Cmb false (InC n1 cs1 xs1 (z : Int)) (InC n2 cs2 xs2 (z : Int)) from (.inr ⟨rfl, .inl e1⟩))
            by_cases r : Nat.gcd z (numP ts) ∈ kl
            · have zn : ¬ z ∈ ce := fun q => (exz.mp q) ⟨fun _ => r, fun _ => cmb⟩
              rw [decide_eq_true r]
              show "go"
              exact ⟨s6, od, _, _, _, _, rfl, hO6, no zn⟩
            · have zy : z ∈ ce := exz.mpr fun q => r (q.mp cmb)
              rw [decide_eq_false r]
              show "go"
              rename_i HP sP hP
              exact ⟨s6.trans sP, od ++ [z], _, _, _, _, rfl, by rw [hP, nI_snoc], yes zy⟩
      · by_cases e2 : InC n2 cs2 xs2 (z : Int)
        · cases b with
          | true =>
            rw [decide_eq_false e1, decide_eq_true e2]
            show "go"
            refine ix_l hW6 (alast hws npos) ?_
            show "go"
            rw [show gcdZ (z : Int) (numP ts) = ((Nat.gcd z (numP ts) : Nat) : Int) by rw [gcdZ_nat, Int.gcd_natCast_natCast]]
            refine o_inN hK6 ?_
            have cmb := (show ¬ Cmb true (InC n1 cs1 xs1 (z : Int)) (InC n2 cs2 xs2 (z : Int)) from (fun c => by rcases c with ⟨x, y, z⟩ | ⟨x, y | y⟩ <;> first | exact absurd y e1 | exact absurd z e2 | exact absurd y e2 | cases x))
            by_cases r : Nat.gcd z (numP ts) ∈ kl
            · have zy : z ∈ ce := exz.mpr fun q => cmb (q.mpr r)
              rw [decide_eq_true r]
              show "go"
              rename_i HP sP hP
              exact ⟨s6.trans sP, od ++ [z], _, _, _, _, rfl, by rw [hP, nI_snoc], yes zy⟩
            · have zn : ¬ z ∈ ce := fun q => (exz.mp q) ⟨fun c => absurd c cmb, fun c => absurd c r⟩
              rw [decide_eq_false r]
              show "go"
              exact ⟨s6, od, _, _, _, _, rfl, hO6, no zn⟩
          | false =>
            rw [decide_eq_false e1, decide_eq_true e2]
            show "go"
            refine ix_l hW6 (alast hws npos) ?_
            show "go"
            rw [show gcdZ (z : Int) (numP ts) = ((Nat.gcd z (numP ts) : Nat) : Int) by rw [gcdZ_nat, Int.gcd_natCast_natCast]]
            refine o_inN hK6 ?_
            have cmb := (show Cmb false (InC n1 cs1 xs1 (z : Int)) (InC n2 cs2 xs2 (z : Int)) from (.inr ⟨rfl, .inr e2⟩))
            by_cases r : Nat.gcd z (numP ts) ∈ kl
            · have zn : ¬ z ∈ ce := fun q => (exz.mp q) ⟨fun _ => r, fun _ => cmb⟩
              rw [decide_eq_true r]
              show "go"
              exact ⟨s6, od, _, _, _, _, rfl, hO6, no zn⟩
            · have zy : z ∈ ce := exz.mpr fun q => r (q.mp cmb)
              rw [decide_eq_false r]
              show "go"
              rename_i HP sP hP
              exact ⟨s6.trans sP, od ++ [z], _, _, _, _, rfl, by rw [hP, nI_snoc], yes zy⟩
        · cases b with
          | true =>
            rw [decide_eq_false e1, decide_eq_false e2]
            show "go"
            refine ix_l hW6 (alast hws npos) ?_
            show "go"
            rw [show gcdZ (z : Int) (numP ts) = ((Nat.gcd z (numP ts) : Nat) : Int) by rw [gcdZ_nat, Int.gcd_natCast_natCast]]
            refine o_inN hK6 ?_
            have cmb := (show ¬ Cmb true (InC n1 cs1 xs1 (z : Int)) (InC n2 cs2 xs2 (z : Int)) from (fun c => by rcases c with ⟨x, y, z⟩ | ⟨x, y | y⟩ <;> first | exact absurd y e1 | exact absurd z e2 | exact absurd y e2 | cases x))
            by_cases r : Nat.gcd z (numP ts) ∈ kl
            · have zy : z ∈ ce := exz.mpr fun q => cmb (q.mpr r)
              rw [decide_eq_true r]
              show "go"
              rename_i HP sP hP
              exact ⟨s6.trans sP, od ++ [z], _, _, _, _, rfl, by rw [hP, nI_snoc], yes zy⟩
            · have zn : ¬ z ∈ ce := fun q => (exz.mp q) ⟨fun c => absurd c cmb, fun c => absurd c r⟩
              rw [decide_eq_false r]
              show "go"
              exact ⟨s6, od, _, _, _, _, rfl, hO6, no zn⟩
          | false =>
            rw [decide_eq_false e1, decide_eq_false e2]
            show "go"
            refine ix_l hW6 (alast hws npos) ?_
            show "go"
            rw [show gcdZ (z : Int) (numP ts) = ((Nat.gcd z (numP ts) : Nat) : Int) by rw [gcdZ_nat, Int.gcd_natCast_natCast]]
            refine o_inN hK6 ?_
            have cmb := (show ¬ Cmb false (InC n1 cs1 xs1 (z : Int)) (InC n2 cs2 xs2 (z : Int)) from (fun c => by rcases c with ⟨x, y, z⟩ | ⟨x, y | y⟩ <;> first | exact absurd y e1 | exact absurd z e2 | exact absurd y e2 | cases x))
            by_cases r : Nat.gcd z (numP ts) ∈ kl
            · have zy : z ∈ ce := exz.mpr fun q => cmb (q.mpr r)
              rw [decide_eq_true r]
              show "go"
              rename_i HP sP hP
              exact ⟨s6.trans sP, od ++ [z], _, _, _, _, rfl, by rw [hP, nI_snoc], yes zy⟩
            · have zn : ¬ z ∈ ce := fun q => (exz.mp q) ⟨fun c => absurd c cmb, fun c => absurd c r⟩
              rw [decide_eq_false r]
              show "go"
              exact ⟨s6, od, _, _, _, _, rfl, hO6, no zn⟩
    rintro σ' H' ⟨s6, od, v10, v11, v12, v14, rfl, hO6, oin, osb⟩
    rw [List.length_map, List.take_length] at oin osb
    have eo : od = ce := up_unique (zu.sublist osb) can.eu fun d => by
      rw [oin]
      exact ⟨fun q => q.2, fun q => ⟨(zm d).mpr (List.mem_append.mpr ((ex d).mp q).1), q⟩⟩
    subst eo
    have hE6 := s6 _ _ nEO hE7
    have tF : Same H H' := SB.same tH7.out fOH0 s6
    show "go"
    refine Or.inr ?_
    refine o_eqN hE6 hO6 ?_
    rw [decide_eq_true rfl]
    exact k _ tF
/-! #### _law_well: 0 script, 1 k, 2 cell -/
def sp__law_well (T : Txt K mg) : Sp := fun vs H Q _ => ∃ (a : Addr) (ns : List Int) (j : Int), vs = [.ref a, .int j] ∧ (SqL K H a (ns.map V.int)) ∧ (0 ≤ j) ∧ (j < 1000) ∧ ∀ p x y H', 0 ≤ x → 0 ≤ y → y < 10 ^ 12 → Fr H p → Same H H' → H' p = some (.lst [.int x, .int y]) → Q (.ref p) H'
theorem len__law_well {vs H Q E} (T : Txt K mg) (h : sp__law_well T vs H Q E) : vs.length = 2 := by obtain ⟨a, ns, j, rfl, _⟩ := h; rfl
theorem use__law_well {T : Txt K mg} {H : Hp} {Q : VK} {E : XK} {a : Addr} {ns : List Int} {j : Int} (hS : SqL K H a (ns.map V.int)) (k0 : 0 ≤ j) (k1 : j < 1000) (k : ∀ p x y H', 0 ≤ x → 0 ≤ y → y < 10 ^ 12 → Fr H p → Same H H' → H' p = some (.lst [.int x, .int y]) → Q (.ref p) H') : sp__law_well T [.ref a, .int j] H Q E := ⟨a, ns, j, rfl, hS, k0, k1, k⟩
local macro_rules | `(tactic| show "own") => `(tactic| (((with_reducible refine' use__law_well ?s1 ?s2 ?s3 ?nxt); (case s1 => (show "hq")); (case s2 => (omega)); (case s3 => (omega)); (case' nxt => skip)); intro _ _ _ _ _ _ _ _ _ _))

theorem ok__law_well (T : Txt K mg) : FnOk P w K mg base CX0 1 T.f__law_well T.fd__law_well ["script", "k"] (sp__law_well T) := by
  refine T.F__law_well.ok sc__law_well (fun vs H Q E h => ?_) (fun cdv A outer s H vs Q E hr h => ?_)
  · exact len__law_well T h
  · refine ⟨_, (pss_cons (ps_set (i := 2) sc__law_well.nd rfl (Or.inl rfl) pe_int)
    (pss_cons (ps_if (pt_cmpR op_ltU (pv 1) (pe_callB (c_lenK (K := K) rfl) (by rfl) T.z_len (by decide +kernel) (pa_cons (pv 0) pa_nil)) (nomark _)) (pss_one (ps_set (i := 2) sc__law_well.nd rfl (Or.inl rfl) (pe_ix (ix_seqK (K := K) rfl) (pv 0) (pv 1) (fun _ _ => rfl)))) pss_nil)
    (pss_cons (ps_if (pt_cmpR op_geU (pv 2) (pe_op op_powU pe_int pe_int) (nomark _)) (pss_one (ps_ret (pe_lst (pa_cons (pe_op op_subU (pv 2) (pe_op op_powU pe_int pe_int)) (pa_cons (pe_op op_mulU pe_int (pe_op (op_addK (K := K) rfl) (pv 1) pe_int)) pa_nil))))) pss_nil)
    (pss_one (ps_ret (pe_lst (pa_cons pe_int (pa_cons (pe_op (op_addK (K := K) rfl) (pe_op op_modU (pe_callTy c_int1 (by rfl) T.z_int (by decide +kernel) (pa_cons (pv 2) pa_nil)) pe_int) (pe_op op_mulU pe_int (pe_op (op_addK (K := K) rfl) (pv 1) pe_int))) pa_nil)))))))), ?_⟩
    clear hr
    obtain ⟨a, ns, j, rfl, hS, k0, k1, k⟩ := h
    refine st_eq (σ' := [some _, some _, none]) rfl ?_
    show "go"
    refine ifs_2 (fun e => ?_) (fun e => ?_)
    · show "go"
      obtain ⟨c, hc⟩ := ix_int hS k0 e
      refine hc _ ?_
      show "go"
      refine ifs_2 (fun e1 => ?_) (fun e1 => ?_)
      · show "go"
        exact k _ (c - 1000000000000000000) (104729 * (j + 1)) _ (by omega) (by omega) (by omega) (by assumption) (by assumption) (by assumption)
      · show "go"
        exact k _ 0 (c % 4294967291 + 104729 * (j + 1)) _ (by omega) (by omega) (by omega) (by assumption) (by assumption) (by assumption)
    · show "go"
      exact k _ 0 (0 % 4294967291 + 104729 * (j + 1)) _ (by omega) (by omega) (by omega) (by assumption) (by assumption) (by assumption)
/-! #### _law_wide_right: 0 well, 1 primes, 2 some, 3 turn, 4 first, 5 second, 6 left, 7 right, 8 number, 9 both, 10 either, 11 told, 12 prime -/
def sp__law_wide_right (T : Txt K mg) : Sp := fun vs H Q _ => ∃ (p : Addr) (x y : Int), vs = [.ref p] ∧ (H p = some (.lst [.int x, .int y])) ∧ (0 ≤ x) ∧ (0 ≤ y) ∧ (y < 10 ^ 12) ∧ ∀ x' y' H', 0 ≤ x' → 0 ≤ y' → y' < 10 ^ 12 → SB p H H' → H' p = some (.lst [.int x', .int y']) → Q (.bl true) H'
theorem len__law_wide_right {vs H Q E} (T : Txt K mg) (h : sp__law_wide_right T vs H Q E) : vs.length = 1 := by obtain ⟨p, x, y, rfl, _⟩ := h; rfl
theorem use__law_wide_right {T : Txt K mg} {H : Hp} {Q : VK} {E : XK} {p : Addr} {x y : Int} (h1 : H p = some (.lst [.int x, .int y])) (x0 : 0 ≤ x) (y0 : 0 ≤ y) (y1 : y < 10 ^ 12) (k : ∀ x' y' H', 0 ≤ x' → 0 ≤ y' → y' < 10 ^ 12 → SB p H H' → H' p = some (.lst [.int x', .int y']) → Q (.bl true) H') : sp__law_wide_right T [.ref p] H Q E := ⟨p, x, y, rfl, h1, x0, y0, y1, k⟩
local macro_rules | `(tactic| show "own") => `(tactic| (((with_reducible refine' use__law_wide_right ?s1 ?s2 ?s3 ?s4 ?nxt); (case s1 => (show "hp")); (case s2 => (assumption)); (case s3 => (assumption)); (case s4 => (assumption)); (case' nxt => skip)); intro _ _ _ _ _ _ _ _))

theorem ok__law_wide_right (T : Txt K mg) : FnOk P w K mg base CX0 8 T.f__law_wide_right T.fd__law_wide_right ["well"] (sp__law_wide_right T) := by
  have G_Calendar___and__ : FnOk P w K mg base CX0 6 T.f_Calendar___and__ T.fd_Calendar___and__ ["self", "other"] (sp_Calendar___and__ T) := ok_Calendar___and__ T
  have G_Calendar___init__ : FnOk P w K mg base CX0 4 T.f_Calendar___init__ T.fd_Calendar___init__ ["self", "number", "divisors", "extra"] (sp_Calendar___init__ T) := ok_Calendar___init__ T
  have G_Calendar___or__ : FnOk P w K mg base CX0 7 T.f_Calendar___or__ T.fd_Calendar___or__ ["self", "other"] (sp_Calendar___or__ T) := ok_Calendar___or__ T
  have G_Calendar_divisors : FnOk P w K mg base CX0 1 T.f_Calendar_divisors T.fd_Calendar_divisors ["self"] (sp_Calendar_divisors T) := ok_Calendar_divisors T
  have G_Calendar_extra : FnOk P w K mg base CX0 1 T.f_Calendar_extra T.fd_Calendar_extra ["self"] (sp_Calendar_extra T) := ok_Calendar_extra T
  have G_Calendar_number : FnOk P w K mg base CX0 1 T.f_Calendar_number T.fd_Calendar_number ["self"] (sp_Calendar_number T) := ok_Calendar_number T
  have G__law_dip : FnOk P w K mg base CX0 1 T.f__law_dip T.fd__law_dip ["well", "many"] (sp__law_dip T) := ok__law_dip T
  have G__law_divisors : FnOk P w K mg base CX0 1 T.f__law_divisors T.fd__law_divisors ["parts"] (sp__law_divisors T) := ok__law_divisors T
  refine T.F__law_wide_right.ok sc__law_wide_right (fun vs H Q E h => ?_) (fun cdv A outer s H vs Q E hr h => ?_)
  · exact len__law_wide_right T h
  · refine ⟨_, (pss_cons (ps_set (i := 1) sc__law_wide_right.nd rfl (Or.inl rfl) (pe_lst (pa_cons pe_int (pa_cons pe_int (pa_cons pe_int (pa_cons pe_int (pa_cons pe_int (pa_cons pe_int (pa_cons pe_int (pa_cons pe_int (pa_cons pe_int (pa_cons pe_int pa_nil))))))))))))
    (pss_cons (ps_set (i := 2) sc__law_wide_right.nd rfl (Or.inl rfl) (pe_lst pa_nil))
    (pss_cons (ps_for PassesOwn.never rfl (pi_range1 rfl T.z_range (pa_cons pe_int pa_nil)) (pg_name (i := 3) sc__law_wide_right.nd rfl (Or.inl rfl)) (pss_one (ps_expr (pe_bmK (K := K) rfl PySem.F.plainAttrs_list PySem.F.slot_list_append PySem.F.type_list_append mt_append (pv 2) (pa_cons (pe_bmK (K := K) rfl PySem.F.plainAttrs_list PySem.F.slot_list_pop PySem.F.type_list_pop mt_popAt (pv 1) (pa_cons (pe_call G__law_dip (hr.mono (by decide)) rfl T.g__law_dip T.F__law_dip.kp T.b__law_dip .nil pass0 (pa_cons (pv 0) (pa_cons (pe_op op_subU pe_int (pv 3)) pa_nil))) pa_nil)) pa_nil)))))
    (pss_cons (ps_set (i := 4) sc__law_wide_right.nd rfl (Or.inl rfl) (pe_call G__law_divisors (hr.mono (by decide)) rfl T.g__law_divisors T.F__law_divisors.kp T.b__law_divisors .nil pass0 (pa_cons (pe_lc (own := [("prime", 12)]) rfl sc__law_wide_right.nd (pi_listK (K := K) rfl (pv 2)) (blkOk_by (own := [("prime", 12)]) (N := N__law_wide_right) (sc := defScope s__law_wide_right) (by first | decide +kernel | rfl)) (fun _ _ _ _ _ => (pg_name (i := 12) sc__law_wide_right.nd rfl (by first | exact Or.inl rfl | exact Or.inr rfl))) (fun _ _ _ _ _ => pts_nil) (fun _ _ _ _ _ => (pe_tup (pa_cons (pv 12) (pa_cons pe_int pa_nil))))) pa_nil)))
    (pss_cons (ps_set (i := 5) sc__law_wide_right.nd rfl (Or.inl rfl) (pe_call G__law_divisors (hr.mono (by decide)) rfl T.g__law_divisors T.F__law_divisors.kp T.b__law_divisors .nil pass0 (pa_cons (pe_lc (own := [("prime", 12)]) rfl sc__law_wide_right.nd (pi_listK (K := K) rfl (pv 1)) (blkOk_by (own := [("prime", 12)]) (N := N__law_wide_right) (sc := defScope s__law_wide_right) (by first | decide +kernel | rfl)) (fun _ _ _ _ _ => (pg_name (i := 12) sc__law_wide_right.nd rfl (by first | exact Or.inl rfl | exact Or.inr rfl))) (fun _ _ _ _ _ => pts_nil) (fun _ _ _ _ _ => (pe_tup (pa_cons (pv 12) (pa_cons pe_int pa_nil))))) pa_nil)))
    (pss_cons (ps_par (i := 6) (j := 7) (by rfl) sc__law_wide_right.nd rfl rfl (by decide) rfl rfl (pa_cons (pe_make T.mk_Calendar G_Calendar___init__ (hr.mono (by decide)) rfl T.gC_Calendar T.b_Calendar___init__ .nil pass0 (pa_cons (pe_ix (ix_seqK (K := K) rfl) (pv 4) (pe_un un_neg pe_int) (fun _ _ => rfl)) (pa_cons (pe_lst (pa_cons pe_int pa_nil)) (pa_cons (pe_lst pa_nil) pa_nil)))) (pa_cons (pe_make T.mk_Calendar G_Calendar___init__ (hr.mono (by decide)) rfl T.gC_Calendar T.b_Calendar___init__ .nil pass0 (pa_cons (pe_ix (ix_seqK (K := K) rfl) (pv 5) (pe_un un_neg pe_int) (fun _ _ => rfl)) (pa_cons (pe_lst (pa_cons pe_int pa_nil)) (pa_cons (pe_lst pa_nil) pa_nil)))) pa_nil)) (by rfl))
    (pss_cons (ps_set (i := 8) sc__law_wide_right.nd rfl (Or.inl rfl) (pe_op op_mulU (pe_ix (ix_seqK (K := K) rfl) (pv 4) (pe_un un_neg pe_int) (fun _ _ => rfl)) (pe_ix (ix_seqK (K := K) rfl) (pv 5) (pe_un un_neg pe_int) (fun _ _ => rfl))))
    (pss_cons (ps_par (i := 9) (j := 10) (by rfl) sc__law_wide_right.nd rfl rfl (by decide) rfl rfl (pa_cons (pe_op (op_own2 (C := T.C_Calendar) T.sf_Calendar T.me_Calendar___and__.at_ T.me_Calendar___and__.fn G_Calendar___and__ (hr.mono (by decide)) T.b_Calendar___and__ pass0) (pv 6) (pv 7)) (pa_cons (pe_op (op_own2 (C := T.C_Calendar) T.sf_Calendar T.me_Calendar___or__.at_ T.me_Calendar___or__.fn G_Calendar___or__ (hr.mono (by decide)) T.b_Calendar___or__ pass0) (pv 6) (pv 7)) pa_nil)) (by rfl))
    (pss_cons (ps_if (pt_cmpR (op_neK (K := K) rfl hr.units) (pe_tup (pa_cons (pe_prop (pv 9) T.cl_Calendar T.pr_Calendar_number G_Calendar_number (hr.mono (by decide)) T.b_Calendar_number .nil pass0 rfl) (pa_cons (pe_prop (pv 9) T.cl_Calendar T.pr_Calendar_divisors G_Calendar_divisors (hr.mono (by decide)) T.b_Calendar_divisors .nil pass0 rfl) (pa_cons (pe_prop (pv 9) T.cl_Calendar T.pr_Calendar_extra G_Calendar_extra (hr.mono (by decide)) T.b_Calendar_extra .nil pass0 rfl) pa_nil)))) (pe_tup (pa_cons (pv 8) (pa_cons (pe_lst (pa_cons pe_int pa_nil)) (pa_cons (pe_lst pa_nil) pa_nil)))) (nomark _)) (pss_one (ps_ret pe_bl)) pss_nil)
    (pss_cons (ps_set (i := 11) sc__law_wide_right.nd rfl (Or.inl rfl) (pe_sortSetG (K := K) rfl (by rfl) T.z_sorted (by rfl) T.z_set (pe_op (op_addK (K := K) rfl) (pv 4) (pv 5))))
    (pss_one (ps_ret (pe_cmpR (op_eqK (K := K) rfl hr.units) (pe_tup (pa_cons (pe_prop (pv 10) T.cl_Calendar T.pr_Calendar_number G_Calendar_number (hr.mono (by decide)) T.b_Calendar_number .nil pass0 rfl) (pa_cons (pe_prop (pv 10) T.cl_Calendar T.pr_Calendar_divisors G_Calendar_divisors (hr.mono (by decide)) T.b_Calendar_divisors .nil pass0 rfl) (pa_cons (pe_prop (pv 10) T.cl_Calendar T.pr_Calendar_extra G_Calendar_extra (hr.mono (by decide)) T.b_Calendar_extra .nil pass0 rfl) pa_nil)))) (pe_tup (pa_cons (pv 8) (pa_cons (pv 11) (pa_cons (pe_lst pa_nil) pa_nil)))) (nomark _)))))))))))))), ?_⟩
    clear hr
    obtain ⟨p, x, y, rfl, h1, x0, y0, y1, k⟩ := h
    refine st_eq (σ' := [some _, none, none, none, none, none, none, none, none, none, none, none, none]) rfl ?_
    show "go"
    rename_i L HL fL sL hL O HO2 fO sO hO
    have nL : L ≠ p := ne_new fL h1
    have pL := sL _ _ h1
    have nO : O ≠ p := ne_new fO pL
    have nOL : O ≠ L := ne_new fO hL
    have hLO := sO _ _ hL
    have fLH : L3.Fr H L := fL
    have fOH : L3.Fr H O := Fr.back sL fO
    have h10 : HO2 L = some (.lst (nI P10)) := hLO
    refine f_rng1 (fun i σ' H' => ∃ (ls os : List Nat) (x' y' : Int) (v3 : Option V), σ' = [some (.ref p), some (.ref L), some (.ref O), v3, none, none, none, none, none, none, none, none, none] ∧ (os ++ ls).Perm P10 ∧ os.length = i ∧ H' L = some (.lst (nI ls)) ∧ H' O = some (.lst (nI os)) ∧ 0 ≤ x' ∧ 0 ≤ y' ∧ y' < 10 ^ 12 ∧ SB p H H' ∧ H' p = some (.lst [.int x', .int y'])) (by omega) (by omega) ⟨P10, [], x, y, none, rfl, List.Perm.refl _, rfl, h10, hO, x0, y0, y1, (SB.of sL).trans (SB.of sO), sO _ _ pL⟩ ?_ ?_
    · rintro i σ' H' hi ⟨ls, os, x', y', v3, rfl, pm, ol, hLs, hOs, x0', y0', y1', sP, pP⟩
      have pl := pm.length_eq
      rw [List.length_append, show P10.length = 10 from rfl] at pl
      have osl : (nI os).length = os.length := List.length_map ..
      show "go"
      rename_i q xq yq Hq aq bq cq1 cq2 cq3 sq pq
      refine pop_atN (sq _ _ nL hLs) aq (by omega) (by omega) fun z ls2 HP mz sP2 hP => ?_
      have hOP := sP2 _ _ nOL (sq _ _ nO hOs)
      have pP2 := sP2 _ _ (fun e => nL e.symm) pq
      have tP : Hld (SB p H HP) := ⟨SB.skip (sP.trans sq) fLH sP2⟩
      clear sq sP sP2 pP pq hOs hLs
      show "go"
      rename_i HZ sZ hZ
      refine ⟨ls2, os ++ [z], xq, yq, _, rfl, ?_, by rw [List.length_append, ol]; rfl, sZ _ _ (fun e => nOL e.symm) hP, by rw [hZ, nI_snoc], cq1, cq2, cq3, SB.skip tP.out fOH sZ, sZ _ _ (fun e => nO e.symm) pP2⟩
      rw [List.append_assoc]
      exact (List.Perm.append_left os mz).trans pm
    rintro σ' H' ⟨ls, os, x', y', v3, rfl, pm, ol, hLs, hOs, x0', y0', y1', sP, pP⟩
    have pl := pm.length_eq
    rw [List.length_append, show P10.length = 10 from rfl] at pl
    have ol5 : os.length = 5 := by omega
    have ll5 : ls.length = 5 := by omega
    have nd : (os ++ ls).Nodup := pm.nodup_iff.mpr (by decide)
    obtain ⟨nd1, nd2, nd3⟩ := List.nodup_append.mp nd
    have pro : ∀ q ∈ os, Pr q ∧ q ≤ 29 := fun q m => p10_pr q (pm.mem_iff.mp (List.mem_append_left _ m))
    have prl : ∀ q ∈ ls, Pr q ∧ q ≤ 29 := fun q m => p10_pr q (pm.mem_iff.mp (List.mem_append_right _ m))
    have pt1 := Qs_parts nd1 fun q m => (pro q m).1
    have pt2 := Qs_parts nd2 fun q m => (prl q m).1
    have mn1 : manyP (Qs os) = 32 := by rw [Qs_many, ol5]
    have mn2 : manyP (Qs ls) = 32 := by rw [Qs_many, ll5]
    have nb1 : numP (Qs os) ≤ 29 ^ 5 := by have := Qs_le (k := 29) fun q m => (pro q m).2; rw [ol5] at this; exact this
    have nb2 : numP (Qs ls) ≤ 29 ^ 5 := by have := Qs_le (k := 29) fun q m => (prl q m).2; rw [ll5] at this; exact this
    have np1 := pt1.pos
    have np2 := pt2.pos
    have eM : numP (Qs (os ++ ls)) = numP (Qs os) * numP (Qs ls) := by rw [Qs, List.map_append]; exact numP_app _ _
    have sqM : ∀ r, Pr r → r ∣ numP (Qs os) * numP (Qs ls) → ¬ r ^ 2 ∣ numP (Qs os) * numP (Qs ls) := by
      rw [← eM]
      exact fun r hr d => Qs_sq nd (fun q m => (List.mem_append.mp m).elim (fun m => (pro q m).1) fun m => (prl q m).1) hr d
    have c12 : Nat.Coprime (numP (Qs os)) (numP (Qs ls)) := cop_of np1 fun r hr d1 d2 => nd3 r ((Qs_dvd nd1 (fun q m => (pro q m).1) hr).mp d1) r ((Qs_dvd nd2 (fun q m => (prl q m).1) hr).mp d2) rfl
    obtain ⟨q1, mq1⟩ := List.exists_mem_of_length_pos (l := os) (by omega)
    obtain ⟨q2, mq2⟩ := List.exists_mem_of_length_pos (l := ls) (by omega)
    have hq1 := (pro q1 mq1).1
    have hq2 := (prl q2 mq2).1
    have dq1 := (Qs_dvd nd1 (fun q m => (pro q m).1) hq1).mpr mq1
    have dq2 := (Qs_dvd nd2 (fun q m => (prl q m).1) hq2).mpr mq2
    show "go"
    refine lc_objs (fun i => .tup [.int ((os.getD i 0 : Nat) : Int), .int 1]) (SqL.of hOs) (by rw [List.length_map]; omega) ?_ ?_
    · intro i v hv H1 s1 Z kZ
      obtain ⟨d, rfl, hd⟩ := nI_at hv
      have ed : os.getD i 0 = d := by rw [List.getD_eq_getElem?_getD, hd]; rfl
      rw [ed] at kZ
      show "go"
      exact kZ _ _ (by assumption) (by assumption) (by assumption)
    intro J1 js1 HJ fJ sJ jl jnd jD jf jq hJ
    have hJ1 : Prs HJ J1 (Qs os) := ⟨js1, hJ, by rw [jl, List.length_map, List.length_map], fun i a q e1 e2 => by
      rw [jq i a e1]
      rw [List.getElem?_map] at e2
      obtain ⟨d, hd, rfl⟩ := Option.map_eq_some_iff.mp e2
      rw [List.getD_eq_getElem?_getD, hd]
      rfl⟩
    have hL2 := sJ _ _ hLs
    have p2 := sJ _ _ pP
    have t2 : Hld (SB p H HJ) := ⟨sP.trans (SB.of sJ)⟩
    clear sJ hLs hOs pP sP jq hJ
    show "go"
    rename_i D1 e1s HD1 fD1 sD1 hD1 all1 len1
    have hL3 := sD1 _ _ hL2
    have p3 := sD1 _ _ p2
    have t3 : Hld (SB p H HD1) := ⟨t2.out.trans (SB.of sD1)⟩
    clear sD1 hL2 p2 t2 hJ1
    refine lc_objs (fun i => .tup [.int ((ls.getD i 0 : Nat) : Int), .int 1]) (SqL.of hL3) (by rw [List.length_map]; omega) ?_ ?_
    · intro i v hv H1 s1 Z kZ
      obtain ⟨d, rfl, hd⟩ := nI_at hv
      have ed : ls.getD i 0 = d := by rw [List.getD_eq_getElem?_getD, hd]; rfl
      rw [ed] at kZ
      show "go"
      exact kZ _ _ (by assumption) (by assumption) (by assumption)
    intro J2 js2 HK fK sK kl knd kD kf kq hK
    have hJ2 : Prs HK J2 (Qs ls) := ⟨js2, hK, by rw [kl, List.length_map, List.length_map], fun i a q e1 e2 => by
      rw [kq i a e1]
      rw [List.getElem?_map] at e2
      obtain ⟨d, hd, rfl⟩ := Option.map_eq_some_iff.mp e2
      rw [List.getD_eq_getElem?_getD, hd]
      rfl⟩
    show "go"
    rename_i D2 e2s HD2 fD2 sD2 hD2 all2 len2
    have sKD := sK.trans sD2
    have hD12 := sKD _ _ hD1
    have p4 := sKD _ _ p3
    have t4 : Hld (SB p H HD2) := ⟨t3.out.trans (SB.of sKD)⟩
    clear sK sD2 sKD kq hK hJ2 hL3 p3 t3 hD1
    have few1' : Few (numP (Qs os)) 32 := by have f := all1.few; rw [len1, mn1] at f; exact f
    have few2' : Few (numP (Qs ls)) 32 := by have f := all2.few; rw [len2, mn2] at f; exact f
    generalize numP (Qs os) = n1 at *
    generalize numP (Qs ls) = n2 at *
    have sn1 : Sz 90 (n1 : Int) := Sz.mk (by omega)
    have sn2 : Sz 90 (n2 : Int) := Sz.mk (by omega)
    have nnM : n1 * n2 ≤ 10 ^ 24 := Nat.le_trans (Nat.mul_le_mul nb1 nb2) (by decide)
    have one1 : ∀ {n : Nat}, ∀ d ∈ [1], d ∣ n := fun {n} d m => by rw [List.mem_singleton.mp m]; exact Nat.one_dvd _
    have noneX : ∀ x ∈ ([] : List Nat), 1 ≤ x ∧ x ≤ 10 ^ 30 := fun x m => absurd m List.not_mem_nil
    refine ix_l hD12 (alast all1 np1) ?_
    show "go"
    rename_i A1 HA1 fA1 sA1 hA1 A2 HA2 fA2 sA2 hA2
    refine mkS (n := n1) (m := 32) (ds := [1]) (xs := []) np1 (by omega) few1' (by decide) (sA2 _ _ hA1) hA2 one1 noneX (by decide) (by decide) ?_
    intro o1 Ho1 fo1 so1 c1
    have tA := sA1.trans (sA2.trans so1)
    have hD13 := tA _ _ hD12
    have hD23 := tA _ _ hD2
    have p5 := tA _ _ p4
    have t5 : Hld (SB p H Ho1) := ⟨t4.out.trans (SB.of tA)⟩
    clear sA1 sA2 so1 tA hA1 hA2 hD12 hD2 p4 t4
    show "go"
    refine ix_l hD23 (alast all2 np2) ?_
    show "go"
    rename_i A1 HA1 fA1 sA1 hA1 A2 HA2 fA2 sA2 hA2
    refine mkS (n := n2) (m := 32) (ds := [1]) (xs := []) np2 (by omega) few2' (by decide) (sA2 _ _ hA1) hA2 one1 noneX (by decide) (by decide) ?_
    intro o2 Ho2 fo2 so2 c2
    have tA := sA1.trans (sA2.trans so2)
    have hD14 := tA _ _ hD13
    have hD24 := tA _ _ hD23
    have p6 := tA _ _ p5
    have c1' := c1.same tA
    have t6 : Hld (SB p H Ho2) := ⟨t5.out.trans (SB.of tA)⟩
    clear sA1 sA2 so2 tA hA1 hA2 hD13 hD23 p5 t5 c1
    show "go"
    refine ix_l hD14 (alast all1 np1) ?_
    show "go"
    refine ix_l hD24 (alast all2 np2) ?_
    show "go"
    rename_i ob Hb fb sb cb oe He fe se ce
    have tE := sb.trans se
    obtain ⟨N, cs, es, kb, _, _, _, ib⟩ := cb.ob
    obtain ⟨rfl, rfl, rfl⟩ := canon_eq kb.ok (canon_both (Nat.mul_pos np1 np2) nnM sqM) fun z => (ib z).trans (in_both z).symm
    have kb' := kb.same se
    obtain ⟨dxb, w1, w2, hob, _, _⟩ := kb'.ob
    have hD15 := tE _ _ hD14
    have hD25 := tE _ _ hD24
    have p7 := tE _ _ p6
    have t7 : Hld (SB p H He) := ⟨t6.out.trans (SB.of tE)⟩
    clear sb se tE cb kb hD14 hD24 p6 t6 c1' c2
    show "go"
    rename_i A1 G1 fA1 u1 hA1 A2 G2 fA2 u2 hA2 A3 G3 fA3 u3 hA3 A4 G4 fA4 u4 hA4 A5 G5 fA5 u5 hA5 A6 G6 fA6 u6 hA6
    have eN : ((n1 * n2 : Nat) : Int) = (n1 : Int) * (n2 : Int) := by push_cast; rfl
    rw [eN] at hA3
    obtain ⟨dd, y1', y2', y3'⟩ := told_same (K := K) (cs := [1]) (u6 _ _ (u5 _ _ (u4 _ _ hA3))) (u6 _ _ (u5 _ _ (u4 _ _ (u3 _ _ (u2 _ _ hA1))))) (u6 _ _ (u5 _ _ (u4 _ _ (u3 _ _ hA2)))) hA6 (u6 _ _ (u5 _ _ hA4)) (u6 _ _ hA5)
    refine Or.inr (o_ned y1' y2' y3' ?_)
    have tG : Same He G6 := u1.trans (u2.trans (u3.trans (u4.trans (u5.trans u6))))
    have hD16 := tG _ _ hD15
    have hD26 := tG _ _ hD25
    have p8 := tG _ _ p7
    have ce8 := ce.same tG
    have t8 : Hld (SB p H G6) := ⟨t7.out.trans (SB.of tG)⟩
    have el1 : e1s.length = 32 := by rw [len1, mn1]
    have el2 : e2s.length = 32 := by rw [len2, mn2]
    clear u1 u2 u3 u4 u5 u6 hA1 hA2 hA3 hA4 hA5 hA6 tG hD15 hD25 p7 t7 ce kb' hob y1' y2' y3'
    have z1' : (nI e1s).length = 32 := by rw [List.length_map, el1]
    have z2' : (nI e2s).length = 32 := by rw [List.length_map, el2]
    show "go"
    rename_i LX HX fX sX hX
    rw [← List.map_append] at hX
    refine ⟨LX, (e1s ++ e2s).map fun d : Nat => (d : Int), rfl, SqL.of (by rw [List.map_map]; exact hX), by rw [List.length_map, List.length_append]; omega, fun out p2 up2 mem2 hp2 => ?_⟩
    obtain ⟨zs, rfl, zu, zm⟩ := asc_nat up2 mem2
    have t9 : Same HX (upd HX p2 (.lst ((zs.map fun d : Nat => (d : Int)).map V.int))) := same_upd hp2
    have h9 : (upd HX p2 (.lst ((zs.map fun d : Nat => (d : Int)).map V.int))) p2 = some (.lst (nI zs)) := by rw [upd_same, List.map_map]; rfl
    generalize upd HX p2 (.lst ((zs.map fun d : Nat => (d : Int)).map V.int)) = H9 at *
    have tX := sX.trans t9
    have tm : ∀ d, d ∈ zs ↔ d ∣ n1 ∨ d ∣ n2 := fun d => by rw [zm, List.mem_append, all1.iff, all2.iff]
    have ce9 := ce8.same tX
    have p9 := tX _ _ p8
    have sX9 : Hld (SB p H H9) := ⟨t8.out.trans (SB.of tX)⟩
    clear mem2 up2 hp2 sX t9 tX hX ce8 p8 t8 hD16 hD26
    obtain ⟨N, cs, es, kb, _, _, _, ib⟩ := ce9.ob
    obtain ⟨rfl, rfl, rfl⟩ := canon_eq kb.ok (canon_either np1 np2 nnM c12 sqM hq1 dq1 hq2 dq2 zu tm) fun z => (ib z).trans (in_either np1 np2 c12 tm z).symm
    obtain ⟨dxe, v1', v2', hoe, _, _⟩ := kb.ob
    show "go"
    rename_i A1 G1 fA1 u1 hA1 A2 G2 fA2 u2 hA2 A3 G3 fA3 u3 hA3 A5 G5 fA5 u5 hA5 A6 G6 fA6 u6 hA6
    rw [eN] at hA3
    obtain ⟨dd, yy1, yy2, yy3⟩ := told_same (K := K) (cs := cs) (u6 _ _ (u5 _ _ hA3)) (u6 _ _ (u5 _ _ (u3 _ _ (u2 _ _ hA1)))) (u6 _ _ (u5 _ _ (u3 _ _ hA2))) hA6 (u6 _ _ (u5 _ _ (u3 _ _ (u2 _ _ (u1 _ _ h9))))) (u6 _ _ hA5)
    have tG : Same H9 G6 := u1.trans (u2.trans (u3.trans (u5.trans u6)))
    refine Or.inr (o_eqd yy1 yy2 yy3 ?_)
    exact k x' y' _ x0' y0' y1' (sX9.out.trans (SB.of tG)) (tG _ _ p9)
/-! #### law: 0 script, 1 k, 2 one, 3 other, 4 left, 5 right -/
def spLaw (K : PySem.W.Frag) : Sp := fun vs H Q _ => ∃ (a : Addr) (ns : List Int), vs = [.ref a] ∧ SqL K H a (ns.map V.int) ∧ ns.length ≤ 63 ∧ ∀ H', Q (.bl true) H'
def sp_law (_ : Txt K mg) : Sp := spLaw K
theorem law_imp (T : Txt K mg) : ∀ vs H Q E, spLaw K vs H Q E → sp_law T vs H Q E := fun _ _ _ _ h => h
theorem len_law {vs H Q E} (T : Txt K mg) (h : sp_law T vs H Q E) : vs.length = 1 := by obtain ⟨a, ns, rfl, _⟩ := h; rfl
theorem ok_law (T : Txt K mg) : FnOk P w K mg base CX0 9 T.f_law T.fd_law ["script"] (sp_law T) := by
  have G_Calendar___and__ : FnOk P w K mg base CX0 6 T.f_Calendar___and__ T.fd_Calendar___and__ ["self", "other"] (sp_Calendar___and__ T) := ok_Calendar___and__ T
  have G_Calendar___eq__ : FnOk P w K mg base CX0 1 T.f_Calendar___eq__ T.fd_Calendar___eq__ ["self", "other"] (sp_Calendar___eq__ T) := ok_Calendar___eq__ T
  have G_Calendar___or__ : FnOk P w K mg base CX0 7 T.f_Calendar___or__ T.fd_Calendar___or__ ["self", "other"] (sp_Calendar___or__ T) := ok_Calendar___or__ T
  have G__law_made : FnOk P w K mg base CX0 6 T.f__law_made T.fd__law_made ["one"] (sp__law_made T) := ok__law_made T
  have G__law_set : FnOk P w K mg base CX0 3 T.f__law_set T.fd__law_set ["well", "most", "limit", "run"] (sp__law_set T) := ok__law_set T
  have G__law_told_right : FnOk P w K mg base CX0 4 T.f__law_told_right T.fd__law_told_right ["one", "other", "both", "calendar"] (sp__law_told_right T) := ok__law_told_right T
  have G__law_well : FnOk P w K mg base CX0 1 T.f__law_well T.fd__law_well ["script", "k"] (sp__law_well T) := ok__law_well T
  have G__law_wide_right : FnOk P w K mg base CX0 8 T.f__law_wide_right T.fd__law_wide_right ["well"] (sp__law_wide_right T) := ok__law_wide_right T
  refine T.F_law.ok sc_law (fun vs H Q E h => ?_) (fun cdv A outer s H vs Q E hr h => ?_)
  · exact len_law T h
  · refine ⟨_, (pss_cons (ps_if (pt_not (ptTK (K := K) rfl (pe_call G__law_wide_right (hr.mono (by decide)) rfl T.g__law_wide_right T.F__law_wide_right.kp T.b__law_wide_right .nil pass0 (pa_cons (pe_call G__law_well (hr.mono (by decide)) rfl T.g__law_well T.F__law_well.kp T.b__law_well .nil pass0 (pa_cons (pv 0) (pa_cons pe_int pa_nil))) pa_nil)) (by intro _; rfl))) (pss_one (ps_ret pe_bl)) pss_nil)
    (pss_cons (ps_for PassesOwn.never rfl (pi_range1 rfl T.z_range (pa_cons (pe_callB (c_max2 rfl) (by rfl) T.z_max (by decide +kernel) (pa_cons pe_int (pa_cons (pe_callB (c_min2 rfl) (by rfl) T.z_min (by decide +kernel) (pa_cons pe_int (pa_cons (pe_callB (c_lenK (K := K) rfl) (by rfl) T.z_len (by decide +kernel) (pa_cons (pv 0) pa_nil)) pa_nil))) pa_nil))) pa_nil)) (pg_name (i := 1) sc_law.nd rfl (Or.inl rfl)) (pss_cons (ps_set (i := 2) sc_law.nd rfl (Or.inl rfl) (pe_call G__law_set (hr.mono (by decide)) rfl T.g__law_set T.F__law_set.kp T.b__law_set .nil pass0 (pa_cons (pe_call G__law_well (hr.mono (by decide)) rfl T.g__law_well T.F__law_well.kp T.b__law_well .nil pass0 (pa_cons (pv 0) (pa_cons (pv 1) pa_nil))) (pa_cons pe_int (pa_cons (pe_op op_powU pe_int pe_int) (pa_cons pe_int pa_nil))))))
    (pss_cons (ps_set (i := 3) sc_law.nd rfl (Or.inl rfl) (pe_call G__law_set (hr.mono (by decide)) rfl T.g__law_set T.F__law_set.kp T.b__law_set .nil pass0 (pa_cons (pe_call G__law_well (hr.mono (by decide)) rfl T.g__law_well T.F__law_well.kp T.b__law_well .nil pass0 (pa_cons (pv 0) (pa_cons (pe_op (op_addK (K := K) rfl) (pv 1) pe_int) pa_nil))) (pa_cons pe_int (pa_cons (pe_op op_powU pe_int pe_int) (pa_cons pe_int pa_nil))))))
    (pss_cons (ps_par (i := 4) (j := 5) (by rfl) sc_law.nd rfl rfl (by decide) rfl rfl (pa_cons (pe_call G__law_made (hr.mono (by decide)) rfl T.g__law_made T.F__law_made.kp T.b__law_made .nil pass0 (pa_cons (pv 2) pa_nil)) (pa_cons (pe_call G__law_made (hr.mono (by decide)) rfl T.g__law_made T.F__law_made.kp T.b__law_made .nil pass0 (pa_cons (pv 3) pa_nil)) pa_nil)) (by rfl))
    (pss_cons (ps_if (pt_not (ptTK (K := K) rfl (pe_call G__law_told_right (hr.mono (by decide)) rfl T.g__law_told_right T.F__law_told_right.kp T.b__law_told_right .nil pass0 (pa_cons (pv 2) (pa_cons (pv 3) (pa_cons pe_bl (pa_cons (pe_op (op_own2 (C := T.C_Calendar) T.sf_Calendar T.me_Calendar___and__.at_ T.me_Calendar___and__.fn G_Calendar___and__ (hr.mono (by decide)) T.b_Calendar___and__ pass0) (pv 4) (pv 5)) pa_nil))))) (by intro _; rfl))) (pss_one (ps_ret pe_bl)) pss_nil)
    (pss_cons (ps_if (pt_not (ptTK (K := K) rfl (pe_call G__law_told_right (hr.mono (by decide)) rfl T.g__law_told_right T.F__law_told_right.kp T.b__law_told_right .nil pass0 (pa_cons (pv 2) (pa_cons (pv 3) (pa_cons pe_bl (pa_cons (pe_op (op_own2 (C := T.C_Calendar) T.sf_Calendar T.me_Calendar___or__.at_ T.me_Calendar___or__.fn G_Calendar___or__ (hr.mono (by decide)) T.b_Calendar___or__ pass0) (pv 4) (pv 5)) pa_nil))))) (by intro _; rfl))) (pss_one (ps_ret pe_bl)) pss_nil)
    (pss_cons (ps_if (pt_not (ptTK (K := K) rfl (pe_call G__law_told_right (hr.mono (by decide)) rfl T.g__law_told_right T.F__law_told_right.kp T.b__law_told_right .nil pass0 (pa_cons (pv 2) (pa_cons (pv 2) (pa_cons pe_bl (pa_cons (pe_op (op_own2 (C := T.C_Calendar) T.sf_Calendar T.me_Calendar___and__.at_ T.me_Calendar___and__.fn G_Calendar___and__ (hr.mono (by decide)) T.b_Calendar___and__ pass0) (pv 4) (pv 4)) pa_nil))))) (by intro _; rfl))) (pss_one (ps_ret pe_bl)) pss_nil)
    (pss_cons (ps_if (PW.pt (pw_or (pt_not (pt_cmpR (op_or2 (op_eqK (K := K) rfl hr.units) (op_ownEq (C := T.C_Calendar) T.me_Calendar___eq__.at_ T.me_Calendar___eq__.fn G_Calendar___eq__ (hr.mono (by decide)) T.b_Calendar___eq__ pass0)) (pe_op (op_own2 (C := T.C_Calendar) T.sf_Calendar T.me_Calendar___and__.at_ T.me_Calendar___and__.fn G_Calendar___and__ (hr.mono (by decide)) T.b_Calendar___and__ pass0) (pv 4) (pv 5)) (pe_op (op_own2 (C := T.C_Calendar) T.sf_Calendar T.me_Calendar___and__.at_ T.me_Calendar___and__.fn G_Calendar___and__ (hr.mono (by decide)) T.b_Calendar___and__ pass0) (pv 5) (pv 4)) (nomark _))) (pw_or1 (pt_not (pt_cmpR (op_or2 (op_eqK (K := K) rfl hr.units) (op_ownEq (C := T.C_Calendar) T.me_Calendar___eq__.at_ T.me_Calendar___eq__.fn G_Calendar___eq__ (hr.mono (by decide)) T.b_Calendar___eq__ pass0)) (pe_op (op_own2 (C := T.C_Calendar) T.sf_Calendar T.me_Calendar___or__.at_ T.me_Calendar___or__.fn G_Calendar___or__ (hr.mono (by decide)) T.b_Calendar___or__ pass0) (pv 4) (pv 5)) (pe_op (op_own2 (C := T.C_Calendar) T.sf_Calendar T.me_Calendar___or__.at_ T.me_Calendar___or__.fn G_Calendar___or__ (hr.mono (by decide)) T.b_Calendar___or__ pass0) (pv 5) (pv 4)) (nomark _)))))) (pss_one (ps_ret pe_bl)) pss_nil)
    (pss_cons (ps_if (pt_cmpR (op_neK (K := K) rfl hr.units) (pe_cmpR (op_or2 (op_eqK (K := K) rfl hr.units) (op_ownEq (C := T.C_Calendar) T.me_Calendar___eq__.at_ T.me_Calendar___eq__.fn G_Calendar___eq__ (hr.mono (by decide)) T.b_Calendar___eq__ pass0)) (pe_op (op_own2 (C := T.C_Calendar) T.sf_Calendar T.me_Calendar___and__.at_ T.me_Calendar___and__.fn G_Calendar___and__ (hr.mono (by decide)) T.b_Calendar___and__ pass0) (pv 4) (pv 5)) (pe_op (op_own2 (C := T.C_Calendar) T.sf_Calendar T.me_Calendar___or__.at_ T.me_Calendar___or__.fn G_Calendar___or__ (hr.mono (by decide)) T.b_Calendar___or__ pass0) (pv 4) (pv 5)) (nomark _)) (pe_cmpR (op_or2 (op_eqK (K := K) rfl hr.units) (op_ownEq (C := T.C_Calendar) T.me_Calendar___eq__.at_ T.me_Calendar___eq__.fn G_Calendar___eq__ (hr.mono (by decide)) T.b_Calendar___eq__ pass0)) (pv 4) (pv 5) (nomark _)) (nomark _)) (pss_one (ps_ret pe_bl)) pss_nil)
    (pss_one (ps_if (pt_not (ptTK (K := K) rfl (pe_call G__law_told_right (hr.mono (by decide)) rfl T.g__law_told_right T.F__law_told_right.kp T.b__law_told_right .nil pass0 (pa_cons (pv 3) (pa_cons (pv 3) (pa_cons pe_bl (pa_cons (pe_op (op_own2 (C := T.C_Calendar) T.sf_Calendar T.me_Calendar___or__.at_ T.me_Calendar___or__.fn G_Calendar___or__ (hr.mono (by decide)) T.b_Calendar___or__ pass0) (pv 5) (pv 5)) pa_nil))))) (by intro _; rfl))) (pss_one (ps_ret pe_bl)) pss_nil)))))))))))
    (pss_one (ps_ret pe_bl)))), ?_⟩
    clear hr
    obtain ⟨a, ns, rfl, hS, hl, q⟩ := h
    refine st_eq (σ' := [some _, none, none, none, none, none]) rfl ?_
    show "go"
    rename_i w x y H1 x0 y0 y1 fw sw pw xw yw H2 xw0 yw0 yw1 s2 p2
    have t2 : Same H H2 := SB.same sw fw s2
    have hS0 := t2.seq hS
    clear sw s2 pw p2 hS t2
    show "go"
    refine f_rng1 (fun i σ' H' => Same H2 H' ∧ ∃ v1 v2 v3 v4 v5, σ' = [some (.ref a), v1, v2, v3, v4, v5]) (by omega) (by split at * <;> omega) ⟨Same.refl _, _, _, _, _, _, rfl⟩ ?_ ?_
    · rintro i σ' H' hi ⟨s1, v1, v2, v3, v4, v5, rfl⟩
      have hi2 : (i : Int) < 63 := by split at * <;> omega
      have hS' := s1.seq hS0
      show "go"
      rename_i p x1 y1 H1 x10 y10 y11 fp sp pp R1 qs1 n1 ds1 cs1 xs1 x2 y2 H3 fR1 g1 o1 f1 x20 y20 y21 s2 p2
      have t2 : Same H' H3 := SB.same sp fp s2
      have hS2 := t2.seq hS'
      clear s2 sp p2 pp
      show "go"
      rename_i q2 x3 y3 H4 x30 y30 y31 fq sq pq R2 qs2 n2 ds2 cs2 xs2 x4 y4 H5 fR2 g2 o2 f2 x40 y40 y41 s4 p4
      have t4 : Same H3 H5 := SB.same sq fq s4
      have g1' := g1.same t4
      have o1 : LOk 8 (10 ^ 12) 18 n1 qs1 ds1 cs1 xs1 := o1
      have o2 : LOk 8 (10 ^ 12) 18 n2 qs2 ds2 cs2 xs2 := o2
      have t24 : Hld (Same H2 H5) := ⟨s1.trans (t2.trans t4)⟩
      clear s4 sq g1 t4 t2 s1 p4 f1 f2 pq hS2 hS'
      show "go"
      rename_i oa Ha fa sa ca ob Hb fb sb cb e1' K1 f1' s1 c1 K1b s1b e2' K2 f2' s2 c2 K2b s2b e3' K3 f3' s3 c3 K3b s3b e4 K4 f4 s4 c4 e5 K5 f5 s5 c5
      refine Or.inr (w_eqY (by show "cals") (by show "cals") (fun z => and_comm) ?_)
      have tt : Same Hb K5 := s1.trans (s1b.trans (s2.trans (s2b.trans (s3.trans (s3b.trans (s4.trans s5))))))
      have ta : Same H5 Hb := sa.trans sb
      have ca' := (ca.same sb).same tt
      have cb' := cb.same tt
      have g1n := (g1'.same ta).same tt
      have g2n := (g2.same ta).same tt
      have tN : Hld (Same H2 K5) := ⟨t24.out.trans (ta.trans tt)⟩
      clear sa sb ca cb s1 c1 s1b s2 c2 s2b s3 c3 s3b s4 c4 s5 c5 tt ta g1' g2 t24
      show "go"
      rename_i e6 K6 f6 s6 c6 e7 K7 f7 s7 c7
      refine Or.inr (w_eqY (by show "cals") (by show "cals") (fun z => or_comm) ?_)
      have tt : Same K5 K7 := s6.trans s7
      replace ca' := ca'.same tt
      replace cb' := cb'.same tt
      replace g1n := g1n.same tt
      replace g2n := g2n.same tt
      have tN2 : Hld (Same H2 K7) := ⟨tN.out.trans tt⟩
      clear tN s6 c6 s7 c7 tt
      show "go"
      rename_i e8 K8 f8 s8 c8 e9 K9 f9 s9 c9
      refine Or.inr (w_eqS (by show "cals") (by show "cals") (fun t ht => ?_))
      have tt : Same K7 K9 := s8.trans s9
      replace ca' := ca'.same tt
      replace cb' := cb'.same tt
      replace g1n := g1n.same tt
      replace g2n := g2n.same tt
      have tN3 : Hld (Same H2 K9) := ⟨tN2.out.trans tt⟩
      clear tN2 s8 c8 s9 c9 tt
      show "go"
      refine Or.inr (w_eqS (by show "cals") (by show "cals") (fun u hu => ?_))
      have tu : t = u := by
        refine Bool.eq_iff_iff.mpr (ht.trans (Iff.trans ⟨fun h z => ?_, fun h z => ?_⟩ hu.symm))
        · have := h z
          exact ⟨fun x => (this.mpr (.inl x)).2, fun x => (this.mpr (.inr x)).1⟩
        · have := h z
          exact ⟨fun x => .inl x.1, fun x => x.elim (fun x => ⟨x, this.mp x⟩) fun x => ⟨this.mpr x, x⟩⟩
      subst tu
      show "go"
      rename_i eA KA fA sA cA KB sB
      exact ⟨tN3.out.trans (sA.trans sB), _, _, _, _, _, rfl⟩
    · rintro σ' H' ⟨s1, v1, v2, v3, v4, v5, rfl⟩
      show "go"
      exact q _
end
/-! ### the end -/
theorem all_mk {l : PySem.W.OpenLaw} {w : World} {K : PySem.W.Frag} {h : Heap} {mg : Str → Option Value} {fa : Addr} (X : K.In h) (G : h.Ns mainGlobals mg) (hfa : mg "law" = some (.ref fa))
    {C_Calendar f_Calendar__chooses f_Calendar___contains__ f__check f__is_needless f_prime_list f_divisor_list f__least_number f_Calendar___init__ f_Calendar_extra p_Calendar_extra f_Calendar___and__ f_Calendar___eq__ f_Calendar___invert__ f_Calendar___or__ f__law_made f__law_dip f__law_gcd f__law_chosen f__law_divisors f__law_extra f__law_prime f__law_parts f__law_set f_Calendar_divisors p_Calendar_divisors f_Calendar_number p_Calendar_number f__law_classes_right f__law_has f__law_in f__law_integers f__law_is_integer f__law_join f__law_told_right f__law_well f__law_wide_right f_law : Addr}
    {od_Calendar__chooses an_Calendar__chooses od_Calendar___contains__ an_Calendar___contains__ od__check an__check od__is_needless an__is_needless od_prime_list an_prime_list od_divisor_list an_divisor_list od__least_number an__least_number od_Calendar___init__ an_Calendar___init__ od_Calendar_extra an_Calendar_extra od_Calendar___and__ an_Calendar___and__ od_Calendar___eq__ an_Calendar___eq__ od_Calendar___invert__ an_Calendar___invert__ od_Calendar___or__ an_Calendar___or__ od__law_made an__law_made od__law_dip an__law_dip od__law_gcd an__law_gcd od__law_chosen an__law_chosen od__law_divisors an__law_divisors od__law_extra an__law_extra od__law_prime an__law_prime od__law_parts an__law_parts od__law_set an__law_set od_Calendar_divisors an_Calendar_divisors od_Calendar_number an_Calendar_number od__law_classes_right an__law_classes_right od__law_has an__law_has od__law_in an__law_in od__law_integers an__law_integers od__law_is_integer an__law_is_integer od__law_join an__law_join od__law_told_right an__law_told_right od__law_well an__law_well od__law_wide_right an__law_wide_right od_law an_law : Option Addr} {sl_Calendar__chooses sl_Calendar___contains__ sl__check sl__is_needless sl_prime_list sl_divisor_list sl__least_number sl_Calendar___init__ sl_Calendar_extra sl_Calendar___and__ sl_Calendar___eq__ sl_Calendar___invert__ sl_Calendar___or__ sl__law_made sl__law_dip sl__law_gcd sl__law_chosen sl__law_divisors sl__law_extra sl__law_prime sl__law_parts sl__law_set sl_Calendar_divisors sl_Calendar_number sl__law_classes_right sl__law_has sl__law_in sl__law_integers sl__law_is_integer sl__law_join sl__law_told_right sl__law_well sl__law_wide_right sl_law : Array (Option Value)} {oc_Calendar__chooses kV_Calendar__chooses dc_Calendar__chooses pm_Calendar__chooses cd_Calendar__chooses ct_Calendar__chooses oc_Calendar___contains__ kV_Calendar___contains__ dc_Calendar___contains__ pm_Calendar___contains__ cd_Calendar___contains__ ct_Calendar___contains__ oc__check kV__check dc__check pm__check cd__check ct__check oc__is_needless kV__is_needless dc__is_needless pm__is_needless cd__is_needless ct__is_needless oc_prime_list kV_prime_list dc_prime_list pm_prime_list cd_prime_list ct_prime_list oc_divisor_list kV_divisor_list dc_divisor_list pm_divisor_list cd_divisor_list ct_divisor_list oc__least_number kV__least_number dc__least_number pm__least_number cd__least_number ct__least_number oc_Calendar___init__ kV_Calendar___init__ dc_Calendar___init__ pm_Calendar___init__ cd_Calendar___init__ ct_Calendar___init__ oc_Calendar_extra kV_Calendar_extra dc_Calendar_extra pm_Calendar_extra cd_Calendar_extra ct_Calendar_extra oc_Calendar___and__ kV_Calendar___and__ dc_Calendar___and__ pm_Calendar___and__ cd_Calendar___and__ ct_Calendar___and__ oc_Calendar___eq__ kV_Calendar___eq__ dc_Calendar___eq__ pm_Calendar___eq__ cd_Calendar___eq__ ct_Calendar___eq__ oc_Calendar___invert__ kV_Calendar___invert__ dc_Calendar___invert__ pm_Calendar___invert__ cd_Calendar___invert__ ct_Calendar___invert__ oc_Calendar___or__ kV_Calendar___or__ dc_Calendar___or__ pm_Calendar___or__ cd_Calendar___or__ ct_Calendar___or__ oc__law_made kV__law_made dc__law_made pm__law_made cd__law_made ct__law_made oc__law_dip kV__law_dip dc__law_dip pm__law_dip cd__law_dip ct__law_dip oc__law_gcd kV__law_gcd dc__law_gcd pm__law_gcd cd__law_gcd ct__law_gcd oc__law_chosen kV__law_chosen dc__law_chosen pm__law_chosen cd__law_chosen ct__law_chosen oc__law_divisors kV__law_divisors dc__law_divisors pm__law_divisors cd__law_divisors ct__law_divisors oc__law_extra kV__law_extra dc__law_extra pm__law_extra cd__law_extra ct__law_extra oc__law_prime kV__law_prime dc__law_prime pm__law_prime cd__law_prime ct__law_prime oc__law_parts kV__law_parts dc__law_parts pm__law_parts cd__law_parts ct__law_parts oc__law_set kV__law_set dc__law_set pm__law_set cd__law_set ct__law_set oc_Calendar_divisors kV_Calendar_divisors dc_Calendar_divisors pm_Calendar_divisors cd_Calendar_divisors ct_Calendar_divisors oc_Calendar_number kV_Calendar_number dc_Calendar_number pm_Calendar_number cd_Calendar_number ct_Calendar_number oc__law_classes_right kV__law_classes_right dc__law_classes_right pm__law_classes_right cd__law_classes_right ct__law_classes_right oc__law_has kV__law_has dc__law_has pm__law_has cd__law_has ct__law_has oc__law_in kV__law_in dc__law_in pm__law_in cd__law_in ct__law_in oc__law_integers kV__law_integers dc__law_integers pm__law_integers cd__law_integers ct__law_integers oc__law_is_integer kV__law_is_integer dc__law_is_integer pm__law_is_integer cd__law_is_integer ct__law_is_integer oc__law_join kV__law_join dc__law_join pm__law_join cd__law_join ct__law_join oc__law_told_right kV__law_told_right dc__law_told_right pm__law_told_right cd__law_told_right ct__law_told_right oc__law_well kV__law_well dc__law_well pm__law_well cd__law_well ct__law_well oc__law_wide_right kV__law_wide_right dc__law_wide_right pm__law_wide_right cd__law_wide_right ct__law_wide_right oc_law kV_law dc_law pm_law cd_law ct_law : Value} {pr_Calendar_extra pr_Calendar_divisors pr_Calendar_number : List Value}
    (aC_Calendar : PySem.W.nsIn K mainGlobals "Calendar" = some (some (.ref C_Calendar)))
    (pg_Calendar : PySem.W.plainGet K C_Calendar Str.empty = true)
    (hd_Calendar : PySem.W.hasDictIn K C_Calendar = true)
    (po_Calendar : PySem.W.plainOver K C_Calendar = true)
    (sa_Calendar : PySem.W.findIn K (.ref C_Calendar) "__setattr__" = some (some (.builtin "object.__setattr__")))
    (ma_Calendar : PySem.W.makesIn K C_Calendar = true)
    (kC_Calendar : PySem.W.keepIn K (.ref C_Calendar) = true)
    (n_Calendar_chosen : PySem.W.findIn K (.ref C_Calendar) "_chosen" = some none)
    (n_Calendar_extra : PySem.W.findIn K (.ref C_Calendar) "_extra" = some none)
    (n_Calendar_number : PySem.W.findIn K (.ref C_Calendar) "_number" = some none)
    (a_Calendar__chooses : PySem.W.findIn K (.ref C_Calendar) "_chooses" = some (some (.ref f_Calendar__chooses)))
    (i_Calendar__chooses : PySem.W.isFn K (.ref f_Calendar__chooses) = true)
    (l_Calendar__chooses : K.lookup f_Calendar__chooses = some ⟨oc_Calendar__chooses, od_Calendar__chooses, .func (PySem.W.fnOf "_chooses" "Calendar._chooses" (defArgs s_Calendar__chooses) (defBody s_Calendar__chooses) (defScope s_Calendar__chooses) .none kV_Calendar__chooses dc_Calendar__chooses pm_Calendar__chooses an_Calendar__chooses cd_Calendar__chooses ct_Calendar__chooses), sl_Calendar__chooses⟩)
    (c_Calendar__chooses : PySem.W.codeIn K cd_Calendar__chooses "Calendar._chooses" = true)
    (k_Calendar__chooses : PySem.W.keepIn K (.ref f_Calendar__chooses) = true)
    (a_Calendar___contains__ : PySem.W.findIn K (.ref C_Calendar) "__contains__" = some (some (.ref f_Calendar___contains__)))
    (i_Calendar___contains__ : PySem.W.isFn K (.ref f_Calendar___contains__) = true)
    (l_Calendar___contains__ : K.lookup f_Calendar___contains__ = some ⟨oc_Calendar___contains__, od_Calendar___contains__, .func (PySem.W.fnOf "__contains__" "Calendar.__contains__" (defArgs s_Calendar___contains__) (defBody s_Calendar___contains__) (defScope s_Calendar___contains__) .none kV_Calendar___contains__ dc_Calendar___contains__ pm_Calendar___contains__ an_Calendar___contains__ cd_Calendar___contains__ ct_Calendar___contains__), sl_Calendar___contains__⟩)
    (c_Calendar___contains__ : PySem.W.codeIn K cd_Calendar___contains__ "Calendar.__contains__" = true)
    (k_Calendar___contains__ : PySem.W.keepIn K (.ref f_Calendar___contains__) = true)
    (a__check : PySem.W.nsIn K mainGlobals "_check" = some (some (.ref f__check)))
    (l__check : K.lookup f__check = some ⟨oc__check, od__check, .func (PySem.W.fnOf "_check" "_check" (defArgs s__check) (defBody s__check) (defScope s__check) .none kV__check dc__check pm__check an__check cd__check ct__check), sl__check⟩)
    (c__check : PySem.W.codeIn K cd__check "_check" = true)
    (k__check : PySem.W.keepIn K (.ref f__check) = true)
    (a__is_needless : PySem.W.nsIn K mainGlobals "_is_needless" = some (some (.ref f__is_needless)))
    (l__is_needless : K.lookup f__is_needless = some ⟨oc__is_needless, od__is_needless, .func (PySem.W.fnOf "_is_needless" "_is_needless" (defArgs s__is_needless) (defBody s__is_needless) (defScope s__is_needless) .none kV__is_needless dc__is_needless pm__is_needless an__is_needless cd__is_needless ct__is_needless), sl__is_needless⟩)
    (c__is_needless : PySem.W.codeIn K cd__is_needless "_is_needless" = true)
    (k__is_needless : PySem.W.keepIn K (.ref f__is_needless) = true)
    (a_prime_list : PySem.W.nsIn K mainGlobals "prime_list" = some (some (.ref f_prime_list)))
    (l_prime_list : K.lookup f_prime_list = some ⟨oc_prime_list, od_prime_list, .func (PySem.W.fnOf "prime_list" "prime_list" (defArgs s_prime_list) (defBody s_prime_list) (defScope s_prime_list) .none kV_prime_list dc_prime_list pm_prime_list an_prime_list cd_prime_list ct_prime_list), sl_prime_list⟩)
    (c_prime_list : PySem.W.codeIn K cd_prime_list "prime_list" = true)
    (k_prime_list : PySem.W.keepIn K (.ref f_prime_list) = true)
    (a_divisor_list : PySem.W.nsIn K mainGlobals "divisor_list" = some (some (.ref f_divisor_list)))
    (l_divisor_list : K.lookup f_divisor_list = some ⟨oc_divisor_list, od_divisor_list, .func (PySem.W.fnOf "divisor_list" "divisor_list" (defArgs s_divisor_list) (defBody s_divisor_list) (defScope s_divisor_list) .none kV_divisor_list dc_divisor_list pm_divisor_list an_divisor_list cd_divisor_list ct_divisor_list), sl_divisor_list⟩)
    (c_divisor_list : PySem.W.codeIn K cd_divisor_list "divisor_list" = true)
    (k_divisor_list : PySem.W.keepIn K (.ref f_divisor_list) = true)
    (a__least_number : PySem.W.nsIn K mainGlobals "_least_number" = some (some (.ref f__least_number)))
    (l__least_number : K.lookup f__least_number = some ⟨oc__least_number, od__least_number, .func (PySem.W.fnOf "_least_number" "_least_number" (defArgs s__least_number) (defBody s__least_number) (defScope s__least_number) .none kV__least_number dc__least_number pm__least_number an__least_number cd__least_number ct__least_number), sl__least_number⟩)
    (c__least_number : PySem.W.codeIn K cd__least_number "_least_number" = true)
    (k__least_number : PySem.W.keepIn K (.ref f__least_number) = true)
    (a_Calendar___init__ : PySem.W.findIn K (.ref C_Calendar) "__init__" = some (some (.ref f_Calendar___init__)))
    (i_Calendar___init__ : PySem.W.isFn K (.ref f_Calendar___init__) = true)
    (l_Calendar___init__ : K.lookup f_Calendar___init__ = some ⟨oc_Calendar___init__, od_Calendar___init__, .func (PySem.W.fnOf "__init__" "Calendar.__init__" (defArgs s_Calendar___init__) (defBody s_Calendar___init__) (defScope s_Calendar___init__) .none kV_Calendar___init__ dc_Calendar___init__ pm_Calendar___init__ an_Calendar___init__ cd_Calendar___init__ ct_Calendar___init__), sl_Calendar___init__⟩)
    (c_Calendar___init__ : PySem.W.codeIn K cd_Calendar___init__ "Calendar.__init__" = true)
    (k_Calendar___init__ : PySem.W.keepIn K (.ref f_Calendar___init__) = true)
    (a_Calendar_extra : PySem.W.findIn K (.ref C_Calendar) "extra" = some (some (.ref p_Calendar_extra)))
    (pget_Calendar_extra : PySem.W.specialIn K (.ref p_Calendar_extra) "__get__" = some (some (.builtin "property.__get__")))
    (ptak_Calendar_extra : PySem.W.takesIn K (.ref p_Calendar_extra) = some true)
    (prec_Calendar_extra : PySem.W.recIn K p_Calendar_extra "property" = some (.ref f_Calendar_extra :: pr_Calendar_extra))
    (l_Calendar_extra : K.lookup f_Calendar_extra = some ⟨oc_Calendar_extra, od_Calendar_extra, .func (PySem.W.fnOf "extra" "Calendar.extra" (defArgs s_Calendar_extra) (defBody s_Calendar_extra) (defScope s_Calendar_extra) .none kV_Calendar_extra dc_Calendar_extra pm_Calendar_extra an_Calendar_extra cd_Calendar_extra ct_Calendar_extra), sl_Calendar_extra⟩)
    (c_Calendar_extra : PySem.W.codeIn K cd_Calendar_extra "Calendar.extra" = true)
    (k_Calendar_extra : PySem.W.keepIn K (.ref f_Calendar_extra) = true)
    (a_Calendar___and__ : PySem.W.findIn K (.ref C_Calendar) "__and__" = some (some (.ref f_Calendar___and__)))
    (i_Calendar___and__ : PySem.W.isFn K (.ref f_Calendar___and__) = true)
    (l_Calendar___and__ : K.lookup f_Calendar___and__ = some ⟨oc_Calendar___and__, od_Calendar___and__, .func (PySem.W.fnOf "__and__" "Calendar.__and__" (defArgs s_Calendar___and__) (defBody s_Calendar___and__) (defScope s_Calendar___and__) .none kV_Calendar___and__ dc_Calendar___and__ pm_Calendar___and__ an_Calendar___and__ cd_Calendar___and__ ct_Calendar___and__), sl_Calendar___and__⟩)
    (c_Calendar___and__ : PySem.W.codeIn K cd_Calendar___and__ "Calendar.__and__" = true)
    (k_Calendar___and__ : PySem.W.keepIn K (.ref f_Calendar___and__) = true)
    (a_Calendar___eq__ : PySem.W.findIn K (.ref C_Calendar) "__eq__" = some (some (.ref f_Calendar___eq__)))
    (i_Calendar___eq__ : PySem.W.isFn K (.ref f_Calendar___eq__) = true)
    (l_Calendar___eq__ : K.lookup f_Calendar___eq__ = some ⟨oc_Calendar___eq__, od_Calendar___eq__, .func (PySem.W.fnOf "__eq__" "Calendar.__eq__" (defArgs s_Calendar___eq__) (defBody s_Calendar___eq__) (defScope s_Calendar___eq__) .none kV_Calendar___eq__ dc_Calendar___eq__ pm_Calendar___eq__ an_Calendar___eq__ cd_Calendar___eq__ ct_Calendar___eq__), sl_Calendar___eq__⟩)
    (c_Calendar___eq__ : PySem.W.codeIn K cd_Calendar___eq__ "Calendar.__eq__" = true)
    (k_Calendar___eq__ : PySem.W.keepIn K (.ref f_Calendar___eq__) = true)
    (a_Calendar___invert__ : PySem.W.findIn K (.ref C_Calendar) "__invert__" = some (some (.ref f_Calendar___invert__)))
    (i_Calendar___invert__ : PySem.W.isFn K (.ref f_Calendar___invert__) = true)
    (l_Calendar___invert__ : K.lookup f_Calendar___invert__ = some ⟨oc_Calendar___invert__, od_Calendar___invert__, .func (PySem.W.fnOf "__invert__" "Calendar.__invert__" (defArgs s_Calendar___invert__) (defBody s_Calendar___invert__) (defScope s_Calendar___invert__) .none kV_Calendar___invert__ dc_Calendar___invert__ pm_Calendar___invert__ an_Calendar___invert__ cd_Calendar___invert__ ct_Calendar___invert__), sl_Calendar___invert__⟩)
    (c_Calendar___invert__ : PySem.W.codeIn K cd_Calendar___invert__ "Calendar.__invert__" = true)
    (k_Calendar___invert__ : PySem.W.keepIn K (.ref f_Calendar___invert__) = true)
    (a_Calendar___or__ : PySem.W.findIn K (.ref C_Calendar) "__or__" = some (some (.ref f_Calendar___or__)))
    (i_Calendar___or__ : PySem.W.isFn K (.ref f_Calendar___or__) = true)
    (l_Calendar___or__ : K.lookup f_Calendar___or__ = some ⟨oc_Calendar___or__, od_Calendar___or__, .func (PySem.W.fnOf "__or__" "Calendar.__or__" (defArgs s_Calendar___or__) (defBody s_Calendar___or__) (defScope s_Calendar___or__) .none kV_Calendar___or__ dc_Calendar___or__ pm_Calendar___or__ an_Calendar___or__ cd_Calendar___or__ ct_Calendar___or__), sl_Calendar___or__⟩)
    (c_Calendar___or__ : PySem.W.codeIn K cd_Calendar___or__ "Calendar.__or__" = true)
    (k_Calendar___or__ : PySem.W.keepIn K (.ref f_Calendar___or__) = true)
    (a__law_made : PySem.W.nsIn K mainGlobals "_law_made" = some (some (.ref f__law_made)))
    (l__law_made : K.lookup f__law_made = some ⟨oc__law_made, od__law_made, .func (PySem.W.fnOf "_law_made" "_law_made" (defArgs s__law_made) (defBody s__law_made) (defScope s__law_made) .none kV__law_made dc__law_made pm__law_made an__law_made cd__law_made ct__law_made), sl__law_made⟩)
    (c__law_made : PySem.W.codeIn K cd__law_made "_law_made" = true)
    (k__law_made : PySem.W.keepIn K (.ref f__law_made) = true)
    (a__law_dip : PySem.W.nsIn K mainGlobals "_law_dip" = some (some (.ref f__law_dip)))
    (l__law_dip : K.lookup f__law_dip = some ⟨oc__law_dip, od__law_dip, .func (PySem.W.fnOf "_law_dip" "_law_dip" (defArgs s__law_dip) (defBody s__law_dip) (defScope s__law_dip) .none kV__law_dip dc__law_dip pm__law_dip an__law_dip cd__law_dip ct__law_dip), sl__law_dip⟩)
    (c__law_dip : PySem.W.codeIn K cd__law_dip "_law_dip" = true)
    (k__law_dip : PySem.W.keepIn K (.ref f__law_dip) = true)
    (a__law_gcd : PySem.W.nsIn K mainGlobals "_law_gcd" = some (some (.ref f__law_gcd)))
    (l__law_gcd : K.lookup f__law_gcd = some ⟨oc__law_gcd, od__law_gcd, .func (PySem.W.fnOf "_law_gcd" "_law_gcd" (defArgs s__law_gcd) (defBody s__law_gcd) (defScope s__law_gcd) .none kV__law_gcd dc__law_gcd pm__law_gcd an__law_gcd cd__law_gcd ct__law_gcd), sl__law_gcd⟩)
    (c__law_gcd : PySem.W.codeIn K cd__law_gcd "_law_gcd" = true)
    (k__law_gcd : PySem.W.keepIn K (.ref f__law_gcd) = true)
    (a__law_chosen : PySem.W.nsIn K mainGlobals "_law_chosen" = some (some (.ref f__law_chosen)))
    (l__law_chosen : K.lookup f__law_chosen = some ⟨oc__law_chosen, od__law_chosen, .func (PySem.W.fnOf "_law_chosen" "_law_chosen" (defArgs s__law_chosen) (defBody s__law_chosen) (defScope s__law_chosen) .none kV__law_chosen dc__law_chosen pm__law_chosen an__law_chosen cd__law_chosen ct__law_chosen), sl__law_chosen⟩)
    (c__law_chosen : PySem.W.codeIn K cd__law_chosen "_law_chosen" = true)
    (k__law_chosen : PySem.W.keepIn K (.ref f__law_chosen) = true)
    (a__law_divisors : PySem.W.nsIn K mainGlobals "_law_divisors" = some (some (.ref f__law_divisors)))
    (l__law_divisors : K.lookup f__law_divisors = some ⟨oc__law_divisors, od__law_divisors, .func (PySem.W.fnOf "_law_divisors" "_law_divisors" (defArgs s__law_divisors) (defBody s__law_divisors) (defScope s__law_divisors) .none kV__law_divisors dc__law_divisors pm__law_divisors an__law_divisors cd__law_divisors ct__law_divisors), sl__law_divisors⟩)
    (c__law_divisors : PySem.W.codeIn K cd__law_divisors "_law_divisors" = true)
    (k__law_divisors : PySem.W.keepIn K (.ref f__law_divisors) = true)
    (a__law_extra : PySem.W.nsIn K mainGlobals "_law_extra" = some (some (.ref f__law_extra)))
    (l__law_extra : K.lookup f__law_extra = some ⟨oc__law_extra, od__law_extra, .func (PySem.W.fnOf "_law_extra" "_law_extra" (defArgs s__law_extra) (defBody s__law_extra) (defScope s__law_extra) .none kV__law_extra dc__law_extra pm__law_extra an__law_extra cd__law_extra ct__law_extra), sl__law_extra⟩)
    (c__law_extra : PySem.W.codeIn K cd__law_extra "_law_extra" = true)
    (k__law_extra : PySem.W.keepIn K (.ref f__law_extra) = true)
    (a__law_prime : PySem.W.nsIn K mainGlobals "_law_prime" = some (some (.ref f__law_prime)))
    (l__law_prime : K.lookup f__law_prime = some ⟨oc__law_prime, od__law_prime, .func (PySem.W.fnOf "_law_prime" "_law_prime" (defArgs s__law_prime) (defBody s__law_prime) (defScope s__law_prime) .none kV__law_prime dc__law_prime pm__law_prime an__law_prime cd__law_prime ct__law_prime), sl__law_prime⟩)
    (c__law_prime : PySem.W.codeIn K cd__law_prime "_law_prime" = true)
    (k__law_prime : PySem.W.keepIn K (.ref f__law_prime) = true)
    (a__law_parts : PySem.W.nsIn K mainGlobals "_law_parts" = some (some (.ref f__law_parts)))
    (l__law_parts : K.lookup f__law_parts = some ⟨oc__law_parts, od__law_parts, .func (PySem.W.fnOf "_law_parts" "_law_parts" (defArgs s__law_parts) (defBody s__law_parts) (defScope s__law_parts) .none kV__law_parts dc__law_parts pm__law_parts an__law_parts cd__law_parts ct__law_parts), sl__law_parts⟩)
    (c__law_parts : PySem.W.codeIn K cd__law_parts "_law_parts" = true)
    (k__law_parts : PySem.W.keepIn K (.ref f__law_parts) = true)
    (a__law_set : PySem.W.nsIn K mainGlobals "_law_set" = some (some (.ref f__law_set)))
    (l__law_set : K.lookup f__law_set = some ⟨oc__law_set, od__law_set, .func (PySem.W.fnOf "_law_set" "_law_set" (defArgs s__law_set) (defBody s__law_set) (defScope s__law_set) .none kV__law_set dc__law_set pm__law_set an__law_set cd__law_set ct__law_set), sl__law_set⟩)
    (c__law_set : PySem.W.codeIn K cd__law_set "_law_set" = true)
    (k__law_set : PySem.W.keepIn K (.ref f__law_set) = true)
    (a_Calendar_divisors : PySem.W.findIn K (.ref C_Calendar) "divisors" = some (some (.ref p_Calendar_divisors)))
    (pget_Calendar_divisors : PySem.W.specialIn K (.ref p_Calendar_divisors) "__get__" = some (some (.builtin "property.__get__")))
    (ptak_Calendar_divisors : PySem.W.takesIn K (.ref p_Calendar_divisors) = some true)
    (prec_Calendar_divisors : PySem.W.recIn K p_Calendar_divisors "property" = some (.ref f_Calendar_divisors :: pr_Calendar_divisors))
    (l_Calendar_divisors : K.lookup f_Calendar_divisors = some ⟨oc_Calendar_divisors, od_Calendar_divisors, .func (PySem.W.fnOf "divisors" "Calendar.divisors" (defArgs s_Calendar_divisors) (defBody s_Calendar_divisors) (defScope s_Calendar_divisors) .none kV_Calendar_divisors dc_Calendar_divisors pm_Calendar_divisors an_Calendar_divisors cd_Calendar_divisors ct_Calendar_divisors), sl_Calendar_divisors⟩)
    (c_Calendar_divisors : PySem.W.codeIn K cd_Calendar_divisors "Calendar.divisors" = true)
    (k_Calendar_divisors : PySem.W.keepIn K (.ref f_Calendar_divisors) = true)
    (a_Calendar_number : PySem.W.findIn K (.ref C_Calendar) "number" = some (some (.ref p_Calendar_number)))
    (pget_Calendar_number : PySem.W.specialIn K (.ref p_Calendar_number) "__get__" = some (some (.builtin "property.__get__")))
    (ptak_Calendar_number : PySem.W.takesIn K (.ref p_Calendar_number) = some true)
    (prec_Calendar_number : PySem.W.recIn K p_Calendar_number "property" = some (.ref f_Calendar_number :: pr_Calendar_number))
    (l_Calendar_number : K.lookup f_Calendar_number = some ⟨oc_Calendar_number, od_Calendar_number, .func (PySem.W.fnOf "number" "Calendar.number" (defArgs s_Calendar_number) (defBody s_Calendar_number) (defScope s_Calendar_number) .none kV_Calendar_number dc_Calendar_number pm_Calendar_number an_Calendar_number cd_Calendar_number ct_Calendar_number), sl_Calendar_number⟩)
    (c_Calendar_number : PySem.W.codeIn K cd_Calendar_number "Calendar.number" = true)
    (k_Calendar_number : PySem.W.keepIn K (.ref f_Calendar_number) = true)
    (a__law_classes_right : PySem.W.nsIn K mainGlobals "_law_classes_right" = some (some (.ref f__law_classes_right)))
    (l__law_classes_right : K.lookup f__law_classes_right = some ⟨oc__law_classes_right, od__law_classes_right, .func (PySem.W.fnOf "_law_classes_right" "_law_classes_right" (defArgs s__law_classes_right) (defBody s__law_classes_right) (defScope s__law_classes_right) .none kV__law_classes_right dc__law_classes_right pm__law_classes_right an__law_classes_right cd__law_classes_right ct__law_classes_right), sl__law_classes_right⟩)
    (c__law_classes_right : PySem.W.codeIn K cd__law_classes_right "_law_classes_right" = true)
    (k__law_classes_right : PySem.W.keepIn K (.ref f__law_classes_right) = true)
    (a__law_has : PySem.W.nsIn K mainGlobals "_law_has" = some (some (.ref f__law_has)))
    (l__law_has : K.lookup f__law_has = some ⟨oc__law_has, od__law_has, .func (PySem.W.fnOf "_law_has" "_law_has" (defArgs s__law_has) (defBody s__law_has) (defScope s__law_has) .none kV__law_has dc__law_has pm__law_has an__law_has cd__law_has ct__law_has), sl__law_has⟩)
    (c__law_has : PySem.W.codeIn K cd__law_has "_law_has" = true)
    (k__law_has : PySem.W.keepIn K (.ref f__law_has) = true)
    (a__law_in : PySem.W.nsIn K mainGlobals "_law_in" = some (some (.ref f__law_in)))
    (l__law_in : K.lookup f__law_in = some ⟨oc__law_in, od__law_in, .func (PySem.W.fnOf "_law_in" "_law_in" (defArgs s__law_in) (defBody s__law_in) (defScope s__law_in) .none kV__law_in dc__law_in pm__law_in an__law_in cd__law_in ct__law_in), sl__law_in⟩)
    (c__law_in : PySem.W.codeIn K cd__law_in "_law_in" = true)
    (k__law_in : PySem.W.keepIn K (.ref f__law_in) = true)
    (a__law_integers : PySem.W.nsIn K mainGlobals "_law_integers" = some (some (.ref f__law_integers)))
    (l__law_integers : K.lookup f__law_integers = some ⟨oc__law_integers, od__law_integers, .func (PySem.W.fnOf "_law_integers" "_law_integers" (defArgs s__law_integers) (defBody s__law_integers) (defScope s__law_integers) .none kV__law_integers dc__law_integers pm__law_integers an__law_integers cd__law_integers ct__law_integers), sl__law_integers⟩)
    (c__law_integers : PySem.W.codeIn K cd__law_integers "_law_integers" = true)
    (k__law_integers : PySem.W.keepIn K (.ref f__law_integers) = true)
    (a__law_is_integer : PySem.W.nsIn K mainGlobals "_law_is_integer" = some (some (.ref f__law_is_integer)))
    (l__law_is_integer : K.lookup f__law_is_integer = some ⟨oc__law_is_integer, od__law_is_integer, .func (PySem.W.fnOf "_law_is_integer" "_law_is_integer" (defArgs s__law_is_integer) (defBody s__law_is_integer) (defScope s__law_is_integer) .none kV__law_is_integer dc__law_is_integer pm__law_is_integer an__law_is_integer cd__law_is_integer ct__law_is_integer), sl__law_is_integer⟩)
    (c__law_is_integer : PySem.W.codeIn K cd__law_is_integer "_law_is_integer" = true)
    (k__law_is_integer : PySem.W.keepIn K (.ref f__law_is_integer) = true)
    (a__law_join : PySem.W.nsIn K mainGlobals "_law_join" = some (some (.ref f__law_join)))
    (l__law_join : K.lookup f__law_join = some ⟨oc__law_join, od__law_join, .func (PySem.W.fnOf "_law_join" "_law_join" (defArgs s__law_join) (defBody s__law_join) (defScope s__law_join) .none kV__law_join dc__law_join pm__law_join an__law_join cd__law_join ct__law_join), sl__law_join⟩)
    (c__law_join : PySem.W.codeIn K cd__law_join "_law_join" = true)
    (k__law_join : PySem.W.keepIn K (.ref f__law_join) = true)
    (a__law_told_right : PySem.W.nsIn K mainGlobals "_law_told_right" = some (some (.ref f__law_told_right)))
    (l__law_told_right : K.lookup f__law_told_right = some ⟨oc__law_told_right, od__law_told_right, .func (PySem.W.fnOf "_law_told_right" "_law_told_right" (defArgs s__law_told_right) (defBody s__law_told_right) (defScope s__law_told_right) .none kV__law_told_right dc__law_told_right pm__law_told_right an__law_told_right cd__law_told_right ct__law_told_right), sl__law_told_right⟩)
    (c__law_told_right : PySem.W.codeIn K cd__law_told_right "_law_told_right" = true)
    (k__law_told_right : PySem.W.keepIn K (.ref f__law_told_right) = true)
    (a__law_well : PySem.W.nsIn K mainGlobals "_law_well" = some (some (.ref f__law_well)))
    (l__law_well : K.lookup f__law_well = some ⟨oc__law_well, od__law_well, .func (PySem.W.fnOf "_law_well" "_law_well" (defArgs s__law_well) (defBody s__law_well) (defScope s__law_well) .none kV__law_well dc__law_well pm__law_well an__law_well cd__law_well ct__law_well), sl__law_well⟩)
    (c__law_well : PySem.W.codeIn K cd__law_well "_law_well" = true)
    (k__law_well : PySem.W.keepIn K (.ref f__law_well) = true)
    (a__law_wide_right : PySem.W.nsIn K mainGlobals "_law_wide_right" = some (some (.ref f__law_wide_right)))
    (l__law_wide_right : K.lookup f__law_wide_right = some ⟨oc__law_wide_right, od__law_wide_right, .func (PySem.W.fnOf "_law_wide_right" "_law_wide_right" (defArgs s__law_wide_right) (defBody s__law_wide_right) (defScope s__law_wide_right) .none kV__law_wide_right dc__law_wide_right pm__law_wide_right an__law_wide_right cd__law_wide_right ct__law_wide_right), sl__law_wide_right⟩)
    (c__law_wide_right : PySem.W.codeIn K cd__law_wide_right "_law_wide_right" = true)
    (k__law_wide_right : PySem.W.keepIn K (.ref f__law_wide_right) = true)
    (a_law : PySem.W.nsIn K mainGlobals "law" = some (some (.ref f_law)))
    (l_law : K.lookup f_law = some ⟨oc_law, od_law, .func (PySem.W.fnOf "law" "law" (defArgs s_law) (defBody s_law) (defScope s_law) .none kV_law dc_law pm_law an_law cd_law ct_law), sl_law⟩)
    (c_law : PySem.W.codeIn K cd_law "law" = true)
    (k_law : PySem.W.keepIn K (.ref f_law) = true)
    (zz_abs : PySem.W.nsIn K mainGlobals "abs" = some none)
    (zz_all : PySem.W.nsIn K mainGlobals "all" = some none)
    (zz_bool : PySem.W.nsIn K mainGlobals "bool" = some none)
    (zz_int : PySem.W.nsIn K mainGlobals "int" = some none)
    (zz_isinstance : PySem.W.nsIn K mainGlobals "isinstance" = some none)
    (zz_len : PySem.W.nsIn K mainGlobals "len" = some none)
    (zz_list : PySem.W.nsIn K mainGlobals "list" = some none)
    (zz_max : PySem.W.nsIn K mainGlobals "max" = some none)
    (zz_min : PySem.W.nsIn K mainGlobals "min" = some none)
    (zz_range : PySem.W.nsIn K mainGlobals "range" = some none)
    (zz_set : PySem.W.nsIn K mainGlobals "set" = some none)
    (zz_sorted : PySem.W.nsIn K mainGlobals "sorted" = some none)
    (mm_gcd : PySem.W.nsIn K mainGlobals "gcd" = some (some (.builtin "math.gcd")))
    (mm_lcm : PySem.W.nsIn K mainGlobals "lcm" = some (some (.builtin "math.lcm")))
    (hca_Calendar : PySem.W.findIn K (.ref C_Calendar) "__class__" = some (some (.builtin "object.__class__")))
    (hcn_Rule : PySem.W.specialIn K (.builtin "object.__class__") "__get__" = some (some (.builtin "getset_descriptor.__get__")))
    (hct_Rule : PySem.W.takesIn K (.builtin "object.__class__") = some true)
    (hcm_Calendar : PySem.W.mroIn K C_Calendar (.type "object") = some true)
    (hsf_Calendar : PySem.W.selfFirst K C_Calendar = true)
    : ∃ fd : FuncData, (∀ (s : Shared) (v : Value), BindsTo s fd ⟨[v], []⟩ [("script", v)]) ∧ ∀ base : Heap, K.In base → base.Ns mainGlobals mg → FnOk l.prog w K mg base CX0 9 fa fd ["script"] (spLaw K) := by
  have e := hfa.symm.trans (PySem.W.mg_of X G a_law)
  cases e
  let T : Txt K mg := {
    C_Calendar := C_Calendar,
    f_Calendar__chooses := f_Calendar__chooses,
    fd_Calendar__chooses := PySem.W.fnOf "_chooses" "Calendar._chooses" (defArgs s_Calendar__chooses) (defBody s_Calendar__chooses) (defScope s_Calendar__chooses) .none kV_Calendar__chooses dc_Calendar__chooses pm_Calendar__chooses an_Calendar__chooses cd_Calendar__chooses ct_Calendar__chooses,
    f_Calendar___contains__ := f_Calendar___contains__,
    fd_Calendar___contains__ := PySem.W.fnOf "__contains__" "Calendar.__contains__" (defArgs s_Calendar___contains__) (defBody s_Calendar___contains__) (defScope s_Calendar___contains__) .none kV_Calendar___contains__ dc_Calendar___contains__ pm_Calendar___contains__ an_Calendar___contains__ cd_Calendar___contains__ ct_Calendar___contains__,
    f__check := f__check,
    fd__check := PySem.W.fnOf "_check" "_check" (defArgs s__check) (defBody s__check) (defScope s__check) .none kV__check dc__check pm__check an__check cd__check ct__check,
    f__is_needless := f__is_needless,
    fd__is_needless := PySem.W.fnOf "_is_needless" "_is_needless" (defArgs s__is_needless) (defBody s__is_needless) (defScope s__is_needless) .none kV__is_needless dc__is_needless pm__is_needless an__is_needless cd__is_needless ct__is_needless,
    f_prime_list := f_prime_list,
    fd_prime_list := PySem.W.fnOf "prime_list" "prime_list" (defArgs s_prime_list) (defBody s_prime_list) (defScope s_prime_list) .none kV_prime_list dc_prime_list pm_prime_list an_prime_list cd_prime_list ct_prime_list,
    f_divisor_list := f_divisor_list,
    fd_divisor_list := PySem.W.fnOf "divisor_list" "divisor_list" (defArgs s_divisor_list) (defBody s_divisor_list) (defScope s_divisor_list) .none kV_divisor_list dc_divisor_list pm_divisor_list an_divisor_list cd_divisor_list ct_divisor_list,
    f__least_number := f__least_number,
    fd__least_number := PySem.W.fnOf "_least_number" "_least_number" (defArgs s__least_number) (defBody s__least_number) (defScope s__least_number) .none kV__least_number dc__least_number pm__least_number an__least_number cd__least_number ct__least_number,
    f_Calendar___init__ := f_Calendar___init__,
    fd_Calendar___init__ := PySem.W.fnOf "__init__" "Calendar.__init__" (defArgs s_Calendar___init__) (defBody s_Calendar___init__) (defScope s_Calendar___init__) .none kV_Calendar___init__ dc_Calendar___init__ pm_Calendar___init__ an_Calendar___init__ cd_Calendar___init__ ct_Calendar___init__,
    f_Calendar_extra := f_Calendar_extra,
    fd_Calendar_extra := PySem.W.fnOf "extra" "Calendar.extra" (defArgs s_Calendar_extra) (defBody s_Calendar_extra) (defScope s_Calendar_extra) .none kV_Calendar_extra dc_Calendar_extra pm_Calendar_extra an_Calendar_extra cd_Calendar_extra ct_Calendar_extra,
    p_Calendar_extra := p_Calendar_extra,
    f_Calendar___and__ := f_Calendar___and__,
    fd_Calendar___and__ := PySem.W.fnOf "__and__" "Calendar.__and__" (defArgs s_Calendar___and__) (defBody s_Calendar___and__) (defScope s_Calendar___and__) .none kV_Calendar___and__ dc_Calendar___and__ pm_Calendar___and__ an_Calendar___and__ cd_Calendar___and__ ct_Calendar___and__,
    f_Calendar___eq__ := f_Calendar___eq__,
    fd_Calendar___eq__ := PySem.W.fnOf "__eq__" "Calendar.__eq__" (defArgs s_Calendar___eq__) (defBody s_Calendar___eq__) (defScope s_Calendar___eq__) .none kV_Calendar___eq__ dc_Calendar___eq__ pm_Calendar___eq__ an_Calendar___eq__ cd_Calendar___eq__ ct_Calendar___eq__,
    f_Calendar___invert__ := f_Calendar___invert__,
    fd_Calendar___invert__ := PySem.W.fnOf "__invert__" "Calendar.__invert__" (defArgs s_Calendar___invert__) (defBody s_Calendar___invert__) (defScope s_Calendar___invert__) .none kV_Calendar___invert__ dc_Calendar___invert__ pm_Calendar___invert__ an_Calendar___invert__ cd_Calendar___invert__ ct_Calendar___invert__,
    f_Calendar___or__ := f_Calendar___or__,
    fd_Calendar___or__ := PySem.W.fnOf "__or__" "Calendar.__or__" (defArgs s_Calendar___or__) (defBody s_Calendar___or__) (defScope s_Calendar___or__) .none kV_Calendar___or__ dc_Calendar___or__ pm_Calendar___or__ an_Calendar___or__ cd_Calendar___or__ ct_Calendar___or__,
    f__law_made := f__law_made,
    fd__law_made := PySem.W.fnOf "_law_made" "_law_made" (defArgs s__law_made) (defBody s__law_made) (defScope s__law_made) .none kV__law_made dc__law_made pm__law_made an__law_made cd__law_made ct__law_made,
    f__law_dip := f__law_dip,
    fd__law_dip := PySem.W.fnOf "_law_dip" "_law_dip" (defArgs s__law_dip) (defBody s__law_dip) (defScope s__law_dip) .none kV__law_dip dc__law_dip pm__law_dip an__law_dip cd__law_dip ct__law_dip,
    f__law_gcd := f__law_gcd,
    fd__law_gcd := PySem.W.fnOf "_law_gcd" "_law_gcd" (defArgs s__law_gcd) (defBody s__law_gcd) (defScope s__law_gcd) .none kV__law_gcd dc__law_gcd pm__law_gcd an__law_gcd cd__law_gcd ct__law_gcd,
    f__law_chosen := f__law_chosen,
    fd__law_chosen := PySem.W.fnOf "_law_chosen" "_law_chosen" (defArgs s__law_chosen) (defBody s__law_chosen) (defScope s__law_chosen) .none kV__law_chosen dc__law_chosen pm__law_chosen an__law_chosen cd__law_chosen ct__law_chosen,
    f__law_divisors := f__law_divisors,
    fd__law_divisors := PySem.W.fnOf "_law_divisors" "_law_divisors" (defArgs s__law_divisors) (defBody s__law_divisors) (defScope s__law_divisors) .none kV__law_divisors dc__law_divisors pm__law_divisors an__law_divisors cd__law_divisors ct__law_divisors,
    f__law_extra := f__law_extra,
    fd__law_extra := PySem.W.fnOf "_law_extra" "_law_extra" (defArgs s__law_extra) (defBody s__law_extra) (defScope s__law_extra) .none kV__law_extra dc__law_extra pm__law_extra an__law_extra cd__law_extra ct__law_extra,
    f__law_prime := f__law_prime,
    fd__law_prime := PySem.W.fnOf "_law_prime" "_law_prime" (defArgs s__law_prime) (defBody s__law_prime) (defScope s__law_prime) .none kV__law_prime dc__law_prime pm__law_prime an__law_prime cd__law_prime ct__law_prime,
    f__law_parts := f__law_parts,
    fd__law_parts := PySem.W.fnOf "_law_parts" "_law_parts" (defArgs s__law_parts) (defBody s__law_parts) (defScope s__law_parts) .none kV__law_parts dc__law_parts pm__law_parts an__law_parts cd__law_parts ct__law_parts,
    f__law_set := f__law_set,
    fd__law_set := PySem.W.fnOf "_law_set" "_law_set" (defArgs s__law_set) (defBody s__law_set) (defScope s__law_set) .none kV__law_set dc__law_set pm__law_set an__law_set cd__law_set ct__law_set,
    f_Calendar_divisors := f_Calendar_divisors,
    fd_Calendar_divisors := PySem.W.fnOf "divisors" "Calendar.divisors" (defArgs s_Calendar_divisors) (defBody s_Calendar_divisors) (defScope s_Calendar_divisors) .none kV_Calendar_divisors dc_Calendar_divisors pm_Calendar_divisors an_Calendar_divisors cd_Calendar_divisors ct_Calendar_divisors,
    p_Calendar_divisors := p_Calendar_divisors,
    f_Calendar_number := f_Calendar_number,
    fd_Calendar_number := PySem.W.fnOf "number" "Calendar.number" (defArgs s_Calendar_number) (defBody s_Calendar_number) (defScope s_Calendar_number) .none kV_Calendar_number dc_Calendar_number pm_Calendar_number an_Calendar_number cd_Calendar_number ct_Calendar_number,
    p_Calendar_number := p_Calendar_number,
    f__law_classes_right := f__law_classes_right,
    fd__law_classes_right := PySem.W.fnOf "_law_classes_right" "_law_classes_right" (defArgs s__law_classes_right) (defBody s__law_classes_right) (defScope s__law_classes_right) .none kV__law_classes_right dc__law_classes_right pm__law_classes_right an__law_classes_right cd__law_classes_right ct__law_classes_right,
    f__law_has := f__law_has,
    fd__law_has := PySem.W.fnOf "_law_has" "_law_has" (defArgs s__law_has) (defBody s__law_has) (defScope s__law_has) .none kV__law_has dc__law_has pm__law_has an__law_has cd__law_has ct__law_has,
    f__law_in := f__law_in,
    fd__law_in := PySem.W.fnOf "_law_in" "_law_in" (defArgs s__law_in) (defBody s__law_in) (defScope s__law_in) .none kV__law_in dc__law_in pm__law_in an__law_in cd__law_in ct__law_in,
    f__law_integers := f__law_integers,
    fd__law_integers := PySem.W.fnOf "_law_integers" "_law_integers" (defArgs s__law_integers) (defBody s__law_integers) (defScope s__law_integers) .none kV__law_integers dc__law_integers pm__law_integers an__law_integers cd__law_integers ct__law_integers,
    f__law_is_integer := f__law_is_integer,
    fd__law_is_integer := PySem.W.fnOf "_law_is_integer" "_law_is_integer" (defArgs s__law_is_integer) (defBody s__law_is_integer) (defScope s__law_is_integer) .none kV__law_is_integer dc__law_is_integer pm__law_is_integer an__law_is_integer cd__law_is_integer ct__law_is_integer,
    f__law_join := f__law_join,
    fd__law_join := PySem.W.fnOf "_law_join" "_law_join" (defArgs s__law_join) (defBody s__law_join) (defScope s__law_join) .none kV__law_join dc__law_join pm__law_join an__law_join cd__law_join ct__law_join,
    f__law_told_right := f__law_told_right,
    fd__law_told_right := PySem.W.fnOf "_law_told_right" "_law_told_right" (defArgs s__law_told_right) (defBody s__law_told_right) (defScope s__law_told_right) .none kV__law_told_right dc__law_told_right pm__law_told_right an__law_told_right cd__law_told_right ct__law_told_right,
    f__law_well := f__law_well,
    fd__law_well := PySem.W.fnOf "_law_well" "_law_well" (defArgs s__law_well) (defBody s__law_well) (defScope s__law_well) .none kV__law_well dc__law_well pm__law_well an__law_well cd__law_well ct__law_well,
    f__law_wide_right := f__law_wide_right,
    fd__law_wide_right := PySem.W.fnOf "_law_wide_right" "_law_wide_right" (defArgs s__law_wide_right) (defBody s__law_wide_right) (defScope s__law_wide_right) .none kV__law_wide_right dc__law_wide_right pm__law_wide_right an__law_wide_right cd__law_wide_right ct__law_wide_right,
    f_law := fa,
    fd_law := PySem.W.fnOf "law" "law" (defArgs s_law) (defBody s_law) (defScope s_law) .none kV_law dc_law pm_law an_law cd_law ct_law,
    gC_Calendar := PySem.W.mg_of X G aC_Calendar,
    cl_Calendar := ⟨pg_Calendar, hd_Calendar, po_Calendar, sa_Calendar⟩,
    mk_Calendar := ⟨ma_Calendar, a_Calendar___init__, i_Calendar___init__, kC_Calendar⟩,
    na_Calendar_chosen := n_Calendar_chosen,
    na_Calendar_extra := n_Calendar_extra,
    na_Calendar_number := n_Calendar_number,
    me_Calendar__chooses := ⟨a_Calendar__chooses, i_Calendar__chooses, k_Calendar__chooses⟩,
    F_Calendar__chooses := fun_mk (st := s_Calendar__chooses) l_Calendar__chooses c_Calendar__chooses k_Calendar__chooses,
    b_Calendar__chooses := (fun_mk (st := s_Calendar__chooses) l_Calendar__chooses c_Calendar__chooses k_Calendar__chooses).binds (ps := ["self", "size"]) fun _ _ _ _ _ _ us hl => match us, hl with | [_, _], _ => rfl,
    me_Calendar___contains__ := ⟨a_Calendar___contains__, i_Calendar___contains__, k_Calendar___contains__⟩,
    F_Calendar___contains__ := fun_mk (st := s_Calendar___contains__) l_Calendar___contains__ c_Calendar___contains__ k_Calendar___contains__,
    b_Calendar___contains__ := (fun_mk (st := s_Calendar___contains__) l_Calendar___contains__ c_Calendar___contains__ k_Calendar___contains__).binds (ps := ["self", "x"]) fun _ _ _ _ _ _ us hl => match us, hl with | [_, _], _ => rfl,
    g__check := PySem.W.mg_of X G a__check,
    F__check := fun_mk (st := s__check) l__check c__check k__check,
    b__check := (fun_mk (st := s__check) l__check c__check k__check).binds (ps := ["number", "divisors", "extra"]) fun _ _ _ _ _ _ us hl => match us, hl with | [_, _, _], _ => rfl,
    g__is_needless := PySem.W.mg_of X G a__is_needless,
    F__is_needless := fun_mk (st := s__is_needless) l__is_needless c__is_needless k__is_needless,
    b__is_needless := (fun_mk (st := s__is_needless) l__is_needless c__is_needless k__is_needless).binds (ps := ["prime", "number", "divisors", "chosen"]) fun _ _ _ _ _ _ us hl => match us, hl with | [_, _, _, _], _ => rfl,
    g_prime_list := PySem.W.mg_of X G a_prime_list,
    F_prime_list := fun_mk (st := s_prime_list) l_prime_list c_prime_list k_prime_list,
    b_prime_list := (fun_mk (st := s_prime_list) l_prime_list c_prime_list k_prime_list).binds (ps := ["number"]) fun _ _ _ _ _ _ us hl => match us, hl with | [_], _ => rfl,
    g_divisor_list := PySem.W.mg_of X G a_divisor_list,
    F_divisor_list := fun_mk (st := s_divisor_list) l_divisor_list c_divisor_list k_divisor_list,
    b_divisor_list := (fun_mk (st := s_divisor_list) l_divisor_list c_divisor_list k_divisor_list).binds (ps := ["number"]) fun _ _ _ _ _ _ us hl => match us, hl with | [_], _ => rfl,
    g__least_number := PySem.W.mg_of X G a__least_number,
    F__least_number := fun_mk (st := s__least_number) l__least_number c__least_number k__least_number,
    b__least_number := (fun_mk (st := s__least_number) l__least_number c__least_number k__least_number).binds (ps := ["number", "chosen"]) fun _ _ _ _ _ _ us hl => match us, hl with | [_, _], _ => rfl,
    me_Calendar___init__ := ⟨a_Calendar___init__, i_Calendar___init__, k_Calendar___init__⟩,
    F_Calendar___init__ := fun_mk (st := s_Calendar___init__) l_Calendar___init__ c_Calendar___init__ k_Calendar___init__,
    b_Calendar___init__ := (fun_mk (st := s_Calendar___init__) l_Calendar___init__ c_Calendar___init__ k_Calendar___init__).binds (ps := ["self", "number", "divisors", "extra"]) fun _ _ _ _ _ _ us hl => match us, hl with | [_, _, _, _], _ => rfl,
    pr_Calendar_extra := ⟨a_Calendar_extra, pget_Calendar_extra, ptak_Calendar_extra, ⟨_, prec_Calendar_extra⟩⟩,
    F_Calendar_extra := fun_mk (st := s_Calendar_extra) l_Calendar_extra c_Calendar_extra k_Calendar_extra,
    b_Calendar_extra := (fun_mk (st := s_Calendar_extra) l_Calendar_extra c_Calendar_extra k_Calendar_extra).binds (ps := ["self"]) fun _ _ _ _ _ _ us hl => match us, hl with | [_], _ => rfl,
    me_Calendar___and__ := ⟨a_Calendar___and__, i_Calendar___and__, k_Calendar___and__⟩,
    F_Calendar___and__ := fun_mk (st := s_Calendar___and__) l_Calendar___and__ c_Calendar___and__ k_Calendar___and__,
    b_Calendar___and__ := (fun_mk (st := s_Calendar___and__) l_Calendar___and__ c_Calendar___and__ k_Calendar___and__).binds (ps := ["self", "other"]) fun _ _ _ _ _ _ us hl => match us, hl with | [_, _], _ => rfl,
    me_Calendar___eq__ := ⟨a_Calendar___eq__, i_Calendar___eq__, k_Calendar___eq__⟩,
    F_Calendar___eq__ := fun_mk (st := s_Calendar___eq__) l_Calendar___eq__ c_Calendar___eq__ k_Calendar___eq__,
    b_Calendar___eq__ := (fun_mk (st := s_Calendar___eq__) l_Calendar___eq__ c_Calendar___eq__ k_Calendar___eq__).binds (ps := ["self", "other"]) fun _ _ _ _ _ _ us hl => match us, hl with | [_, _], _ => rfl,
    me_Calendar___invert__ := ⟨a_Calendar___invert__, i_Calendar___invert__, k_Calendar___invert__⟩,
    F_Calendar___invert__ := fun_mk (st := s_Calendar___invert__) l_Calendar___invert__ c_Calendar___invert__ k_Calendar___invert__,
    b_Calendar___invert__ := (fun_mk (st := s_Calendar___invert__) l_Calendar___invert__ c_Calendar___invert__ k_Calendar___invert__).binds (ps := ["self"]) fun _ _ _ _ _ _ us hl => match us, hl with | [_], _ => rfl,
    me_Calendar___or__ := ⟨a_Calendar___or__, i_Calendar___or__, k_Calendar___or__⟩,
    F_Calendar___or__ := fun_mk (st := s_Calendar___or__) l_Calendar___or__ c_Calendar___or__ k_Calendar___or__,
    b_Calendar___or__ := (fun_mk (st := s_Calendar___or__) l_Calendar___or__ c_Calendar___or__ k_Calendar___or__).binds (ps := ["self", "other"]) fun _ _ _ _ _ _ us hl => match us, hl with | [_, _], _ => rfl,
    g__law_made := PySem.W.mg_of X G a__law_made,
    F__law_made := fun_mk (st := s__law_made) l__law_made c__law_made k__law_made,
    b__law_made := (fun_mk (st := s__law_made) l__law_made c__law_made k__law_made).binds (ps := ["one"]) fun _ _ _ _ _ _ us hl => match us, hl with | [_], _ => rfl,
    g__law_dip := PySem.W.mg_of X G a__law_dip,
    F__law_dip := fun_mk (st := s__law_dip) l__law_dip c__law_dip k__law_dip,
    b__law_dip := (fun_mk (st := s__law_dip) l__law_dip c__law_dip k__law_dip).binds (ps := ["well", "many"]) fun _ _ _ _ _ _ us hl => match us, hl with | [_, _], _ => rfl,
    g__law_gcd := PySem.W.mg_of X G a__law_gcd,
    F__law_gcd := fun_mk (st := s__law_gcd) l__law_gcd c__law_gcd k__law_gcd,
    b__law_gcd := (fun_mk (st := s__law_gcd) l__law_gcd c__law_gcd k__law_gcd).binds (ps := ["one", "other"]) fun _ _ _ _ _ _ us hl => match us, hl with | [_, _], _ => rfl,
    g__law_chosen := PySem.W.mg_of X G a__law_chosen,
    F__law_chosen := fun_mk (st := s__law_chosen) l__law_chosen c__law_chosen k__law_chosen,
    b__law_chosen := (fun_mk (st := s__law_chosen) l__law_chosen c__law_chosen k__law_chosen).binds (ps := ["well", "divisors"]) fun _ _ _ _ _ _ us hl => match us, hl with | [_, _], _ => rfl,
    g__law_divisors := PySem.W.mg_of X G a__law_divisors,
    F__law_divisors := fun_mk (st := s__law_divisors) l__law_divisors c__law_divisors k__law_divisors,
    b__law_divisors := (fun_mk (st := s__law_divisors) l__law_divisors c__law_divisors k__law_divisors).binds (ps := ["parts"]) fun _ _ _ _ _ _ us hl => match us, hl with | [_], _ => rfl,
    g__law_extra := PySem.W.mg_of X G a__law_extra,
    F__law_extra := fun_mk (st := s__law_extra) l__law_extra c__law_extra k__law_extra,
    b__law_extra := (fun_mk (st := s__law_extra) l__law_extra c__law_extra k__law_extra).binds (ps := ["well", "divisors", "run"]) fun _ _ _ _ _ _ us hl => match us, hl with | [_, _, _], _ => rfl,
    g__law_prime := PySem.W.mg_of X G a__law_prime,
    F__law_prime := fun_mk (st := s__law_prime) l__law_prime c__law_prime k__law_prime,
    b__law_prime := (fun_mk (st := s__law_prime) l__law_prime c__law_prime k__law_prime).binds (ps := ["at"]) fun _ _ _ _ _ _ us hl => match us, hl with | [_], _ => rfl,
    g__law_parts := PySem.W.mg_of X G a__law_parts,
    F__law_parts := fun_mk (st := s__law_parts) l__law_parts c__law_parts k__law_parts,
    b__law_parts := (fun_mk (st := s__law_parts) l__law_parts c__law_parts k__law_parts).binds (ps := ["well", "most", "limit"]) fun _ _ _ _ _ _ us hl => match us, hl with | [_, _, _], _ => rfl,
    g__law_set := PySem.W.mg_of X G a__law_set,
    F__law_set := fun_mk (st := s__law_set) l__law_set c__law_set k__law_set,
    b__law_set := (fun_mk (st := s__law_set) l__law_set c__law_set k__law_set).binds (ps := ["well", "most", "limit", "run"]) fun _ _ _ _ _ _ us hl => match us, hl with | [_, _, _, _], _ => rfl,
    pr_Calendar_divisors := ⟨a_Calendar_divisors, pget_Calendar_divisors, ptak_Calendar_divisors, ⟨_, prec_Calendar_divisors⟩⟩,
    F_Calendar_divisors := fun_mk (st := s_Calendar_divisors) l_Calendar_divisors c_Calendar_divisors k_Calendar_divisors,
    b_Calendar_divisors := (fun_mk (st := s_Calendar_divisors) l_Calendar_divisors c_Calendar_divisors k_Calendar_divisors).binds (ps := ["self"]) fun _ _ _ _ _ _ us hl => match us, hl with | [_], _ => rfl,
    pr_Calendar_number := ⟨a_Calendar_number, pget_Calendar_number, ptak_Calendar_number, ⟨_, prec_Calendar_number⟩⟩,
    F_Calendar_number := fun_mk (st := s_Calendar_number) l_Calendar_number c_Calendar_number k_Calendar_number,
    b_Calendar_number := (fun_mk (st := s_Calendar_number) l_Calendar_number c_Calendar_number k_Calendar_number).binds (ps := ["self"]) fun _ _ _ _ _ _ us hl => match us, hl with | [_], _ => rfl,
    g__law_classes_right := PySem.W.mg_of X G a__law_classes_right,
    F__law_classes_right := fun_mk (st := s__law_classes_right) l__law_classes_right c__law_classes_right k__law_classes_right,
    b__law_classes_right := (fun_mk (st := s__law_classes_right) l__law_classes_right c__law_classes_right k__law_classes_right).binds (ps := ["parts", "wide", "due", "number", "told"]) fun _ _ _ _ _ _ us hl => match us, hl with | [_, _, _, _, _], _ => rfl,
    g__law_has := PySem.W.mg_of X G a__law_has,
    F__law_has := fun_mk (st := s__law_has) l__law_has c__law_has k__law_has,
    b__law_has := (fun_mk (st := s__law_has) l__law_has c__law_has k__law_has).binds (ps := ["size", "number", "chosen", "extra"]) fun _ _ _ _ _ _ us hl => match us, hl with | [_, _, _, _], _ => rfl,
    g__law_in := PySem.W.mg_of X G a__law_in,
    F__law_in := fun_mk (st := s__law_in) l__law_in c__law_in k__law_in,
    b__law_in := (fun_mk (st := s__law_in) l__law_in c__law_in k__law_in).binds (ps := ["size", "one"]) fun _ _ _ _ _ _ us hl => match us, hl with | [_, _], _ => rfl,
    g__law_integers := PySem.W.mg_of X G a__law_integers,
    F__law_integers := fun_mk (st := s__law_integers) l__law_integers c__law_integers k__law_integers,
    b__law_integers := (fun_mk (st := s__law_integers) l__law_integers c__law_integers k__law_integers).binds (ps := ["told"]) fun _ _ _ _ _ _ us hl => match us, hl with | [_], _ => rfl,
    g__law_is_integer := PySem.W.mg_of X G a__law_is_integer,
    F__law_is_integer := fun_mk (st := s__law_is_integer) l__law_is_integer c__law_is_integer k__law_is_integer,
    b__law_is_integer := (fun_mk (st := s__law_is_integer) l__law_is_integer c__law_is_integer k__law_is_integer).binds (ps := ["told"]) fun _ _ _ _ _ _ us hl => match us, hl with | [_], _ => rfl,
    g__law_join := PySem.W.mg_of X G a__law_join,
    F__law_join := fun_mk (st := s__law_join) l__law_join c__law_join k__law_join,
    b__law_join := (fun_mk (st := s__law_join) l__law_join c__law_join k__law_join).binds (ps := ["parts", "others"]) fun _ _ _ _ _ _ us hl => match us, hl with | [_, _], _ => rfl,
    g__law_told_right := PySem.W.mg_of X G a__law_told_right,
    F__law_told_right := fun_mk (st := s__law_told_right) l__law_told_right c__law_told_right k__law_told_right,
    b__law_told_right := (fun_mk (st := s__law_told_right) l__law_told_right c__law_told_right k__law_told_right).binds (ps := ["one", "other", "both", "calendar"]) fun _ _ _ _ _ _ us hl => match us, hl with | [_, _, _, _], _ => rfl,
    g__law_well := PySem.W.mg_of X G a__law_well,
    F__law_well := fun_mk (st := s__law_well) l__law_well c__law_well k__law_well,
    b__law_well := (fun_mk (st := s__law_well) l__law_well c__law_well k__law_well).binds (ps := ["script", "k"]) fun _ _ _ _ _ _ us hl => match us, hl with | [_, _], _ => rfl,
    g__law_wide_right := PySem.W.mg_of X G a__law_wide_right,
    F__law_wide_right := fun_mk (st := s__law_wide_right) l__law_wide_right c__law_wide_right k__law_wide_right,
    b__law_wide_right := (fun_mk (st := s__law_wide_right) l__law_wide_right c__law_wide_right k__law_wide_right).binds (ps := ["well"]) fun _ _ _ _ _ _ us hl => match us, hl with | [_], _ => rfl,
    g_law := PySem.W.mg_of X G a_law,
    F_law := fun_mk (st := s_law) l_law c_law k_law,
    b_law := (fun_mk (st := s_law) l_law c_law k_law).binds (ps := ["script"]) fun _ _ _ _ _ _ us hl => match us, hl with | [_], _ => rfl,
    z_abs := PySem.W.mg_none_of X G zz_abs,
    z_all := PySem.W.mg_none_of X G zz_all,
    z_bool := PySem.W.mg_none_of X G zz_bool,
    z_int := PySem.W.mg_none_of X G zz_int,
    z_isinstance := PySem.W.mg_none_of X G zz_isinstance,
    z_len := PySem.W.mg_none_of X G zz_len,
    z_list := PySem.W.mg_none_of X G zz_list,
    z_max := PySem.W.mg_none_of X G zz_max,
    z_min := PySem.W.mg_none_of X G zz_min,
    z_range := PySem.W.mg_none_of X G zz_range,
    z_set := PySem.W.mg_none_of X G zz_set,
    z_sorted := PySem.W.mg_none_of X G zz_sorted,
    m_gcd := PySem.W.mg_of X G mm_gcd,
    m_lcm := PySem.W.mg_of X G mm_lcm,
    ic_Calendar := ⟨hca_Calendar, hcn_Rule, hct_Rule, hcm_Calendar⟩,
    sf_Calendar := hsf_Calendar }
  exact ⟨T.fd_law, fun s v => .of_eq rfl, fun base _ _ => (ok_law T).imp (law_imp T)⟩
theorem walk {l : PySem.W.OpenLaw} {q : Program} {loose : List Str} {XP : (Str → Option Value) → Heap → Prop} {YP : World → Heap → Prop} {d : DefRec} {K : Params → PySem.W.Frag} (hn : l.most = some 63) (hdf : d.params.defaults = [])
    (hY : ∀ (w : World) (h : Heap), YP w h → (K w.params).In h)
    (F : ∀ (w : World) (mg : Str → Option Value) (fa : Addr) (h : Heap), (K w.params).In h → h.Ns mainGlobals mg → mg d.name = some (.ref fa) →
      ∃ fd : FuncData, (∀ (s : Shared) (u : Value), BindsTo s fd ⟨[u], []⟩ [("script", u)]) ∧ ∀ base : Heap, (K w.params).In base → base.Ns mainGlobals mg → FnOk l.prog w (K w.params) mg base CX0 9 fa fd ["script"] (spLaw (K w.params))) :
    PySem.W.WalkO q loose XP YP l.row.toRowW d [] (fun f vs => PySem.call f vs) :=
  L2.walk_of (n := 63) (k := 9) (x := "script") (CX := fun _ => CX0) (sp := fun w => spLaw (K w.params)) hn (by decide) hdf ⟨rfl, by decide, by decide⟩ hY F (fun _ _ a ns hl _ hS => ⟨a, ns, rfl, hS, hl, fun _ => rfl⟩) fun _ _ _ _ _ z => z
end Law

open PySem PySem.W PyProof.Rows in
set_option maxRecDepth 100000 in
set_option maxHeartbeats 0 in
theorem PySem.Challenge.cw_rulesquares_k07_how_joined_calendars_are_holds : PySem.Challenge.rw_rulesquares_k07_how_joined_calendars_are.Holds := by
  w_on; o_law; k_head; (case hw => w_witness2)
  k_fill
  refine Law.walk (l := PySem.Challenge.rw_rulesquares_k07_how_joined_calendars_are) rfl rfl (fun w h Y => PySem.W.kIn_of Y) ?F
  case F =>
    intro w mg fa h KX G hmg
    refine' Law.all_mk KX G hmg ?aC_Calendar ?pg_Calendar ?hd_Calendar ?po_Calendar ?sa_Calendar ?ma_Calendar ?kC_Calendar ?n_Calendar_chosen ?n_Calendar_extra ?n_Calendar_number ?a_Calendar__chooses ?i_Calendar__chooses ?l_Calendar__chooses ?c_Calendar__chooses ?k_Calendar__chooses ?a_Calendar___contains__ ?i_Calendar___contains__ ?l_Calendar___contains__ ?c_Calendar___contains__ ?k_Calendar___contains__ ?a__check ?l__check ?c__check ?k__check ?a__is_needless ?l__is_needless ?c__is_needless ?k__is_needless ?a_prime_list ?l_prime_list ?c_prime_list ?k_prime_list ?a_divisor_list ?l_divisor_list ?c_divisor_list ?k_divisor_list ?a__least_number ?l__least_number ?c__least_number ?k__least_number ?a_Calendar___init__ ?i_Calendar___init__ ?l_Calendar___init__ ?c_Calendar___init__ ?k_Calendar___init__ ?a_Calendar_extra ?pget_Calendar_extra ?ptak_Calendar_extra ?prec_Calendar_extra ?l_Calendar_extra ?c_Calendar_extra ?k_Calendar_extra ?a_Calendar___and__ ?i_Calendar___and__ ?l_Calendar___and__ ?c_Calendar___and__ ?k_Calendar___and__ ?a_Calendar___eq__ ?i_Calendar___eq__ ?l_Calendar___eq__ ?c_Calendar___eq__ ?k_Calendar___eq__ ?a_Calendar___invert__ ?i_Calendar___invert__ ?l_Calendar___invert__ ?c_Calendar___invert__ ?k_Calendar___invert__ ?a_Calendar___or__ ?i_Calendar___or__ ?l_Calendar___or__ ?c_Calendar___or__ ?k_Calendar___or__ ?a__law_made ?l__law_made ?c__law_made ?k__law_made ?a__law_dip ?l__law_dip ?c__law_dip ?k__law_dip ?a__law_gcd ?l__law_gcd ?c__law_gcd ?k__law_gcd ?a__law_chosen ?l__law_chosen ?c__law_chosen ?k__law_chosen ?a__law_divisors ?l__law_divisors ?c__law_divisors ?k__law_divisors ?a__law_extra ?l__law_extra ?c__law_extra ?k__law_extra ?a__law_prime ?l__law_prime ?c__law_prime ?k__law_prime ?a__law_parts ?l__law_parts ?c__law_parts ?k__law_parts ?a__law_set ?l__law_set ?c__law_set ?k__law_set ?a_Calendar_divisors ?pget_Calendar_divisors ?ptak_Calendar_divisors ?prec_Calendar_divisors ?l_Calendar_divisors ?c_Calendar_divisors ?k_Calendar_divisors ?a_Calendar_number ?pget_Calendar_number ?ptak_Calendar_number ?prec_Calendar_number ?l_Calendar_number ?c_Calendar_number ?k_Calendar_number ?a__law_classes_right ?l__law_classes_right ?c__law_classes_right ?k__law_classes_right ?a__law_has ?l__law_has ?c__law_has ?k__law_has ?a__law_in ?l__law_in ?c__law_in ?k__law_in ?a__law_integers ?l__law_integers ?c__law_integers ?k__law_integers ?a__law_is_integer ?l__law_is_integer ?c__law_is_integer ?k__law_is_integer ?a__law_join ?l__law_join ?c__law_join ?k__law_join ?a__law_told_right ?l__law_told_right ?c__law_told_right ?k__law_told_right ?a__law_well ?l__law_well ?c__law_well ?k__law_well ?a__law_wide_right ?l__law_wide_right ?c__law_wide_right ?k__law_wide_right ?a_law ?l_law ?c_law ?k_law ?zz_abs ?zz_all ?zz_bool ?zz_int ?zz_isinstance ?zz_len ?zz_list ?zz_max ?zz_min ?zz_range ?zz_set ?zz_sorted ?mm_gcd ?mm_lcm ?hca_Calendar ?hcn_Rule ?hct_Rule ?hcm_Calendar ?hsf_Calendar
    (case aC_Calendar => k_is)
    (case pg_Calendar => k_is)
    (case hd_Calendar => k_is)
    (case po_Calendar => k_is)
    (case sa_Calendar => k_is)
    (case ma_Calendar => k_is)
    (case kC_Calendar => k_is)
    (case n_Calendar_chosen => k_is)
    (case n_Calendar_extra => k_is)
    (case n_Calendar_number => k_is)
    (case a_Calendar__chooses => k_is)
    (case i_Calendar__chooses => k_is)
    (case l_Calendar__chooses => k_is)
    (case c_Calendar__chooses => k_is)
    (case k_Calendar__chooses => k_is)
    (case a_Calendar___contains__ => k_is)
    (case i_Calendar___contains__ => k_is)
    (case l_Calendar___contains__ => k_is)
    (case c_Calendar___contains__ => k_is)
    (case k_Calendar___contains__ => k_is)
    (case a__check => k_is)
    (case l__check => k_is)
    (case c__check => k_is)
    (case k__check => k_is)
    (case a__is_needless => k_is)
    (case l__is_needless => k_is)
    (case c__is_needless => k_is)
    (case k__is_needless => k_is)
    (case a_prime_list => k_is)
    (case l_prime_list => k_is)
    (case c_prime_list => k_is)
    (case k_prime_list => k_is)
    (case a_divisor_list => k_is)
    (case l_divisor_list => k_is)
    (case c_divisor_list => k_is)
    (case k_divisor_list => k_is)
    (case a__least_number => k_is)
    (case l__least_number => k_is)
    (case c__least_number => k_is)
    (case k__least_number => k_is)
    (case a_Calendar___init__ => k_is)
    (case i_Calendar___init__ => k_is)
    (case l_Calendar___init__ => k_is)
    (case c_Calendar___init__ => k_is)
    (case k_Calendar___init__ => k_is)
    (case a_Calendar_extra => k_is)
    (case pget_Calendar_extra => k_is)
    (case ptak_Calendar_extra => k_is)
    (case prec_Calendar_extra => k_is)
    (case l_Calendar_extra => k_is)
    (case c_Calendar_extra => k_is)
    (case k_Calendar_extra => k_is)
    (case a_Calendar___and__ => k_is)
    (case i_Calendar___and__ => k_is)
    (case l_Calendar___and__ => k_is)
    (case c_Calendar___and__ => k_is)
    (case k_Calendar___and__ => k_is)
    (case a_Calendar___eq__ => k_is)
    (case i_Calendar___eq__ => k_is)
    (case l_Calendar___eq__ => k_is)
    (case c_Calendar___eq__ => k_is)
    (case k_Calendar___eq__ => k_is)
    (case a_Calendar___invert__ => k_is)
    (case i_Calendar___invert__ => k_is)
    (case l_Calendar___invert__ => k_is)
    (case c_Calendar___invert__ => k_is)
    (case k_Calendar___invert__ => k_is)
    (case a_Calendar___or__ => k_is)
    (case i_Calendar___or__ => k_is)
    (case l_Calendar___or__ => k_is)
    (case c_Calendar___or__ => k_is)
    (case k_Calendar___or__ => k_is)
    (case a__law_made => k_is)
    (case l__law_made => k_is)
    (case c__law_made => k_is)
    (case k__law_made => k_is)
    (case a__law_dip => k_is)
    (case l__law_dip => k_is)
    (case c__law_dip => k_is)
    (case k__law_dip => k_is)
    (case a__law_gcd => k_is)
    (case l__law_gcd => k_is)
    (case c__law_gcd => k_is)
    (case k__law_gcd => k_is)
    (case a__law_chosen => k_is)
    (case l__law_chosen => k_is)
    (case c__law_chosen => k_is)
    (case k__law_chosen => k_is)
    (case a__law_divisors => k_is)
    (case l__law_divisors => k_is)
    (case c__law_divisors => k_is)
    (case k__law_divisors => k_is)
    (case a__law_extra => k_is)
    (case l__law_extra => k_is)
    (case c__law_extra => k_is)
    (case k__law_extra => k_is)
    (case a__law_prime => k_is)
    (case l__law_prime => k_is)
    (case c__law_prime => k_is)
    (case k__law_prime => k_is)
    (case a__law_parts => k_is)
    (case l__law_parts => k_is)
    (case c__law_parts => k_is)
    (case k__law_parts => k_is)
    (case a__law_set => k_is)
    (case l__law_set => k_is)
    (case c__law_set => k_is)
    (case k__law_set => k_is)
    (case a_Calendar_divisors => k_is)
    (case pget_Calendar_divisors => k_is)
    (case ptak_Calendar_divisors => k_is)
    (case prec_Calendar_divisors => k_is)
    (case l_Calendar_divisors => k_is)
    (case c_Calendar_divisors => k_is)
    (case k_Calendar_divisors => k_is)
    (case a_Calendar_number => k_is)
    (case pget_Calendar_number => k_is)
    (case ptak_Calendar_number => k_is)
    (case prec_Calendar_number => k_is)
    (case l_Calendar_number => k_is)
    (case c_Calendar_number => k_is)
    (case k_Calendar_number => k_is)
    (case a__law_classes_right => k_is)
    (case l__law_classes_right => k_is)
    (case c__law_classes_right => k_is)
    (case k__law_classes_right => k_is)
    (case a__law_has => k_is)
    (case l__law_has => k_is)
    (case c__law_has => k_is)
    (case k__law_has => k_is)
    (case a__law_in => k_is)
    (case l__law_in => k_is)
    (case c__law_in => k_is)
    (case k__law_in => k_is)
    (case a__law_integers => k_is)
    (case l__law_integers => k_is)
    (case c__law_integers => k_is)
    (case k__law_integers => k_is)
    (case a__law_is_integer => k_is)
    (case l__law_is_integer => k_is)
    (case c__law_is_integer => k_is)
    (case k__law_is_integer => k_is)
    (case a__law_join => k_is)
    (case l__law_join => k_is)
    (case c__law_join => k_is)
    (case k__law_join => k_is)
    (case a__law_told_right => k_is)
    (case l__law_told_right => k_is)
    (case c__law_told_right => k_is)
    (case k__law_told_right => k_is)
    (case a__law_well => k_is)
    (case l__law_well => k_is)
    (case c__law_well => k_is)
    (case k__law_well => k_is)
    (case a__law_wide_right => k_is)
    (case l__law_wide_right => k_is)
    (case c__law_wide_right => k_is)
    (case k__law_wide_right => k_is)
    (case a_law => k_is)
    (case l_law => k_is)
    (case c_law => k_is)
    (case k_law => k_is)
    (case zz_abs => k_is)
    (case zz_all => k_is)
    (case zz_bool => k_is)
    (case zz_int => k_is)
    (case zz_isinstance => k_is)
    (case zz_len => k_is)
    (case zz_list => k_is)
    (case zz_max => k_is)
    (case zz_min => k_is)
    (case zz_range => k_is)
    (case zz_set => k_is)
    (case zz_sorted => k_is)
    (case mm_gcd => k_is)
    (case mm_lcm => k_is)
    (case hca_Calendar => k_is)
    (case hcn_Rule => k_is)
    (case hct_Rule => k_is)
    (case hcm_Calendar => k_is)
    (case hsf_Calendar => k_is)
