import PyProof.Rows.All
import Wide.All
import OpenK.AllK
import Wide.FinOn
import HandS.ForMost
import HandS.Wide
import HandS.Property
import HandS.Defaults
import HandS.MakeKw
import HandS.MakeKwOnly
import HandS.Flow
import HandS.IsInst
import HandS.Gcd
import HandS.Conv
import HandS.TryOnly
import HandS.Style
import HandS.SortInts
import HandS.DictComp
import KE.KOpsOwn
import HandS.SlotsOwn
import PyProof.InstNe
import HandS.TryMany
import HandS.ExcInit
import HandS.ExcField
import HandS.ExcIs
import HandS.ExcOwn
import HandS.WordsExc
import KE.KExcIs
import PySem.Challenge.RW_rulesquares_k18_no_such_cell
set_option Elab.async false
set_option linter.all false
set_option maxRecDepth 100000
set_option maxHeartbeats 2000000
/-! A layer of our own over HandS: every reading's rest has a name, and one tactic goes through it step by step. -/
namespace L3
open PySem L2 PyProof.Rows

/-! ### heaps -/
/-- all that was tracked but p is as it was -/
def SB (p : Addr) (H H' : Hp) : Prop := ∀ a o, a ≠ p → H a = some o → H' a = some o
/-- not tracked -/
structure Fr (H : Hp) (q : Addr) : Prop where
  out : H q = none
theorem tr_same {H H' : Hp} {a : Addr} {o : HO} (e : Same H H') (h : H a = some o) : H' a = some o := e a o h
theorem tr_but {H H' : Hp} {a p : Addr} {o : HO} (e : SB p H H') (n : a ≠ p) (h : H a = some o) : H' a = some o := e a o n h
theorem ne_new {H : Hp} {q p : Addr} {o : HO} (h : Fr H q) (h' : H p = some o) : q ≠ p := fun e => by have h := h.out; rw [e, h'] at h; cases h
theorem ne_new' {H : Hp} {q p : Addr} {o : HO} (h : Fr H q) (h' : H p = some o) : p ≠ q := fun e => by have h := h.out; rw [← e, h'] at h; cases h
theorem same_upd {H : Hp} {p : Addr} {o : HO} (h : H p = none) : Same H (upd H p o) := fun b u e => by rw [upd_ne (ne_of_none e h)]; exact e
theorem sb_upd {H : Hp} {p : Addr} {o : HO} : SB p H (upd H p o) := fun b u n e => by rw [upd_ne n]; exact e
theorem SB.refl (p : Addr) (H : Hp) : SB p H H := fun _ _ _ h => h
theorem SB.trans {p : Addr} {H H1 H2 : Hp} (a : SB p H H1) (b : SB p H1 H2) : SB p H H2 := fun c o n h => b c o n (a c o n h)
theorem SB.of {p : Addr} {H H1 : Hp} (a : Same H H1) : SB p H H1 := fun c o _ h => a c o h
/-- new ahead, so what changed at p is nothing that was tracked -/
theorem SB.same {p : Addr} {H H1 H2 : Hp} (a : Same H H1) (h : Fr H p) (b : SB p H1 H2) : Same H H2 := fun c o q => b c o (ne_of_none q h.out) (a c o q)
theorem Same.back {H H1 : Hp} {p : Addr} (a : Same H H1) (h : H1 p = none) : H p = none := a.free h

/-! ### sizes of ints -/
def Sz (n : Nat) (i : Int) : Prop := i.natAbs < 2 ^ n
theorem Sz.mk {n : Nat} {i : Int} (h : i.natAbs < 2 ^ n) : Sz n i := h
theorem Sz.mul {a b : Nat} {i j : Int} (ha : Sz a i) (hb : Sz b j) : Sz (a + b) (i * j) := wide_lt ha hb
theorem Sz.add {a b : Nat} {i j : Int} (ha : Sz a i) (hb : Sz b j) : Sz (a + b + 1) (i + j) := by
  unfold Sz at *
  have h1 : (i + j).natAbs ≤ i.natAbs + j.natAbs := Int.natAbs_add_le i j
  have h2 : 2 ^ a ≤ 2 ^ (a + b) := Nat.pow_le_pow_right (by decide) (Nat.le_add_right _ _)
  have h3 : 2 ^ b ≤ 2 ^ (a + b) := Nat.pow_le_pow_right (by decide) (Nat.le_add_left _ _)
  rw [Nat.pow_succ]
  omega
theorem Sz.neg {a : Nat} {i : Int} (ha : Sz a i) : Sz a (-i) := by unfold Sz at *; rw [Int.natAbs_neg]; exact ha
theorem Sz.sub {a b : Nat} {i j : Int} (ha : Sz a i) (hb : Sz b j) : Sz (a + b + 1) (i - j) := by
  have := ha.add hb.neg
  rwa [← Int.sub_eq_add_neg] at this
theorem Sz.mono {a b : Nat} {i : Int} (ha : Sz a i) (h : a ≤ b) : Sz b i := Nat.lt_of_lt_of_le ha (Nat.pow_le_pow_right (by decide) h)
theorem Sz.le {a : Nat} {i j : Int} (h0 : 0 ≤ i) (h : i ≤ j) (hj : Sz a j) : Sz a i := by unfold Sz at *; omega
/-- an int between two bounds -/
theorem Sz.btw {a : Nat} {i m : Int} (h0 : -m ≤ i) (h : i ≤ m) (hj : Sz a m) : Sz a i := by unfold Sz at *; omega
theorem Sz.mod {a : Nat} {i j : Int} (h : 0 < j) (hj : Sz a j) : Sz a (i % j) := Sz.le (Int.emod_nonneg _ (by omega)) (Int.le_of_lt (Int.emod_lt_of_pos _ h)) hj
theorem Sz.div {a : Nat} {i j : Int} (h : 0 < j) (hi : 0 ≤ i) (ha : Sz a i) : Sz a (i / j) := Sz.le (Int.ediv_nonneg hi (by omega)) (Int.ediv_le_self _ hi) ha
theorem mul_ok {a b : Nat} {i j : Int} (ha : Sz a i) (hb : Sz b j) (h : a + b ≤ 999990) : IntMulOk i j :=
  (wide_mul (ha.mono (Nat.le_succ a)) (hb.mono (Nat.le_succ b)) (Nat.succ_pos _) (Nat.succ_pos _) (by omega)).ok
theorem mul_okl {i j : Int} (h : -(2 ^ 64) < i ∧ i < 2 ^ 64) : IntMulOk i j := CMul.ok (.inl h)
theorem mul_okr {i j : Int} (h : -(2 ^ 64) < j ∧ j < 2 ^ 64) : IntMulOk i j := CMul.ok (.inr h)
theorem div_ok {b : Nat} {i j : Int} (h : 0 < j) (hb : Sz b j) (h9 : b ≤ 8999) : CDivW i j := wide_div h (hb.mono (Nat.le_succ b)) (Nat.succ_pos _) (by omega)

section
variable {X : Cx}
/-! ### unions of operations -/
def rOr (r1 r2 : R2) : R2 := fun x y H Q => r1 x y H Q ∨ r2 x y H Q
theorem op_or2 {f : Value → Value → Sem Value} {r1 r2 : R2} (h1 : OpR X f r1) (h2 : OpR X f r2) : OpR X f (rOr r1 r2) := by
  rintro pins s σ H x y v u Q I rx ry (h | h)
  · exact h1 pins s σ H x y v u Q I rx ry h
  · exact h2 pins s σ H x y v u Q I rx ry h
def rAddI : R2 := rI0 fun i j => .int (i + j)
def rAddS : R2 := fun x y H Q => ∃ i j, x = .str i ∧ y = .str j ∧ i.length + j.length ≤ sizeLine ∧ Q (.str (i ++ j)) H
def rCatS (K : PySem.W.Frag) : R2 := fun x y H Q => ∃ l b xs zs, x = .ref l ∧ y = .ref b ∧ H l = some (.lst xs) ∧ H b = some (.lst zs) ∧ xs.length + zs.length ≤ sizeLine ∧ ∀ p, H p = none → Q (.ref p) (upd H p (.lst (xs ++ zs)))
theorem op_addI : OpR X (binaryOp .Add) rAddI := op_add
theorem op_addS : OpR X (binaryOp .Add) rAddS := op_add_str
theorem op_addU : OpR X (binaryOp .Add) (rOr rAddI (rOr rCat (rOr rAddS (rCatT X.K)))) := op_or2 op_addI (op_or2 op_cat (op_or2 op_addS op_catT))
def rSubI : R2 := rI0 fun i j => .int (i - j)
theorem op_subU : OpR X (binaryOp .Sub) rSubI := op_sub
def rMulI : R2 := rI IntMulOk fun i j => .int (i * j)
theorem op_mulI : OpR X (binaryOp .Mult) rMulI := opI fun _ _ _ _ _ _ _ hc q => mul_int q hc
theorem op_mulU : OpR X (binaryOp .Mult) (rOr rMulI rRep) := op_or2 op_mulI op_rep
def CMod (_ j : Int) : Prop := 0 < j
def rModI : R2 := rI CMod fun i j => .int (i % j)
theorem op_modU : OpR X (binaryOp .Mod) rModI := op_mod
def rDivI : R2 := rI CDivW fun i j => .int (i / j)
theorem op_fdivU : OpR X (binaryOp .FloorDiv) rDivI := op_fdivW
def rPowI : R2 := rI CPow fun i j => .int (i ^ j.toNat)
theorem op_powU : OpR X (binaryOp .Pow) rPowI := op_pow
theorem op_eqU (hu : X.A.units + 64 < cLine) : OpR X (compareOp .Eq) (rOr rEq (rEqD X.K)) := op_or2 op_eq (op_eqD hu)
theorem op_neU (hu : X.A.units + 64 < cLine) : OpR X (compareOp .NotEq) (rOr rNe (rNeD X.K)) := op_or2 op_ne (op_neD hu)
def rLtI : R2 := rI0 fun i j => .bl (decide (i < j))
def rLeI : R2 := rI0 fun i j => .bl (decide (i ≤ j))
def rGtI : R2 := rI0 fun i j => .bl (decide (j < i))
def rGeI : R2 := rI0 fun i j => .bl (decide (j ≤ i))
theorem op_ltU : OpR X (compareOp .Lt) rLtI := op_lt
theorem op_leU : OpR X (compareOp .LtE) rLeI := op_le
theorem op_gtU : OpR X (compareOp .Gt) rGtI := op_gt
theorem op_geU : OpR X (compareOp .GtE) rGeI := op_ge
def rIsN' : R2 := fun x y H Q => y = .non ∧ Q (.bl (decide (x = .non))) H
def rNotN' : R2 := fun x y H Q => y = .non ∧ Q (.bl (!decide (x = .non))) H
theorem op_isU : OpR X (compareOp .Is) rIsN' := op_isN
theorem op_isnotU : OpR X (compareOp .IsNot) rNotN' := op_notN
end

/-! ### what is left behind a step, named -/
section
variable {K : PySem.W.Frag} {C a p dx : Addr} {σ : L2.St} {H : Hp} {Q : VK} {D : Ends} {nx bk ct : L2.St → Hp → Prop} {rt : VK} {t u : TS} {te ta tb tc : TE} {c d : TT} {r r1 r2 : R2} {g : TG} {i j : Int} {x y v : V} {b : Bool} {P : Prop} {xs ys : List V} {fs : List (Str × V)} {f : Str} {sp : Sp} {E : XK} {tas : TA}

def IfS (b : Bool) (t u : TS) (D : Ends) (σ : L2.St) (H : Hp) : Prop := if b = true then t D σ H else u D σ H
theorem st_eq {σ' : L2.St} {t : TS} (e : σ = σ') (h : t D σ' H) : t D σ H := e ▸ h
theorem g_seq (h : t ⟨u ⟨nx, rt, bk, ct⟩, rt, bk, ct⟩ σ H) : tSeq t u ⟨nx, rt, bk, ct⟩ σ H := h
theorem g_next (h : nx σ H) : tNext ⟨nx, rt, bk, ct⟩ σ H := h
theorem g_brk (h : bk σ H) : tBreak ⟨nx, rt, bk, ct⟩ σ H := h
theorem g_cont (h : ct σ H) : tCont ⟨nx, rt, bk, ct⟩ σ H := h
theorem g_asg (h : te σ H fun x H1 => g x σ H1 nx) : tAsg te g ⟨nx, rt, bk, ct⟩ σ H := h
theorem g_ret (h : te σ H rt) : tRet te ⟨nx, rt, bk, ct⟩ σ H := h
theorem g_retN (h : rt .non H) : tRetN ⟨nx, rt, bk, ct⟩ σ H := h
theorem g_drop (h : te σ H fun _ H1 => nx σ H1) : tDrop te ⟨nx, rt, bk, ct⟩ σ H := h
theorem g_ifs (h : c σ H fun b H1 => IfS b t u ⟨nx, rt, bk, ct⟩ σ H1) : tIfS c t u ⟨nx, rt, bk, ct⟩ σ H := h
theorem ifs_T (h : t D σ H) : IfS true t u D σ H := h
theorem ifs_F (h : u D σ H) : IfS false t u D σ H := h
theorem ifs_y {dP : Decidable P} (e : P) (h : t D σ H) : IfS (decide P) t u D σ H := by rw [decide_eq_true e]; exact h
theorem ifs_n {dP : Decidable P} (e : ¬ P) (h : u D σ H) : IfS (decide P) t u D σ H := by rw [decide_eq_false e]; exact h
theorem ifs_2 {dP : Decidable P} (h1 : P → t D σ H) (h2 : ¬ P → u D σ H) : IfS (decide P) t u D σ H := by
  by_cases h : P
  · exact ifs_y h (h1 h)
  · exact ifs_n h (h2 h)
theorem ifs_b (h1 : b = true → t D σ H) (h2 : b = false → u D σ H) : IfS b t u D σ H := by
  cases b
  · exact h2 rfl
  · exact h1 rfl
theorem ifs_not (h : IfS b u t D σ H) : IfS (!b) t u D σ H := by
  cases b
  · exact h
  · exact h

/-! tests -/
def BlR (x : V) (H : Hp) (Q : Bool → Hp → Prop) : Prop := ∃ k, x = .bl k ∧ Q k H
theorem g_test {Q : Bool → Hp → Prop} (h : te σ H fun x H1 => BlR x H1 Q) : tTest te σ H Q := h
theorem g_tb {Q : Bool → Hp → Prop} (h : te σ H fun x H1 => BlR x H1 Q) : tB te σ H Q := h
theorem g_bl {Q : Bool → Hp → Prop} (h : Q b H) : BlR (.bl b) H Q := ⟨b, rfl, h⟩
def AndR (b : Bool) (u : TT) (σ : L2.St) (H : Hp) (Q : Bool → Hp → Prop) : Prop := if b = true then u σ H Q else Q false H
def OrR (b : Bool) (u : TT) (σ : L2.St) (H : Hp) (Q : Bool → Hp → Prop) : Prop := if b = true then Q true H else u σ H Q
def NotR (b : Bool) (H : Hp) (Q : Bool → Hp → Prop) : Prop := Q (!b) H
theorem g_tand {Q : Bool → Hp → Prop} (h : c σ H fun b H1 => AndR b d σ H1 Q) : tAnd c d σ H Q := h
theorem g_tor {Q : Bool → Hp → Prop} (h : c σ H fun b H1 => OrR b d σ H1 Q) : tOr c d σ H Q := h
theorem g_tnot {Q : Bool → Hp → Prop} (h : c σ H fun b H1 => NotR b H1 Q) : tNot c σ H Q := h
theorem and_T {Q : Bool → Hp → Prop} (h : d σ H Q) : AndR true d σ H Q := h
theorem and_F {Q : Bool → Hp → Prop} (h : Q false H) : AndR false d σ H Q := h
theorem and_y {Q : Bool → Hp → Prop} {dP : Decidable P} (e : P) (h : d σ H Q) : AndR (decide P) d σ H Q := by rw [decide_eq_true e]; exact h
theorem and_n {Q : Bool → Hp → Prop} {dP : Decidable P} (e : ¬ P) (h : Q false H) : AndR (decide P) d σ H Q := by rw [decide_eq_false e]; exact h
theorem and_2 {Q : Bool → Hp → Prop} {dP : Decidable P} (h1 : P → d σ H Q) (h2 : ¬ P → Q false H) : AndR (decide P) d σ H Q := by
  by_cases h : P
  · exact and_y h (h1 h)
  · exact and_n h (h2 h)
theorem and_b {Q : Bool → Hp → Prop} (h1 : b = true → d σ H Q) (h2 : b = false → Q false H) : AndR b d σ H Q := by
  cases b
  · exact h2 rfl
  · exact h1 rfl
theorem or_T {Q : Bool → Hp → Prop} (h : Q true H) : OrR true d σ H Q := h
theorem or_F {Q : Bool → Hp → Prop} (h : d σ H Q) : OrR false d σ H Q := h
theorem or_y {Q : Bool → Hp → Prop} {dP : Decidable P} (e : P) (h : Q true H) : OrR (decide P) d σ H Q := by rw [decide_eq_true e]; exact h
theorem or_n {Q : Bool → Hp → Prop} {dP : Decidable P} (e : ¬ P) (h : d σ H Q) : OrR (decide P) d σ H Q := by rw [decide_eq_false e]; exact h
theorem or_2 {Q : Bool → Hp → Prop} {dP : Decidable P} (h1 : P → Q true H) (h2 : ¬ P → d σ H Q) : OrR (decide P) d σ H Q := by
  by_cases h : P
  · exact or_y h (h1 h)
  · exact or_n h (h2 h)
theorem or_b {Q : Bool → Hp → Prop} (h1 : b = true → Q true H) (h2 : b = false → d σ H Q) : OrR b d σ H Q := by
  cases b
  · exact h2 rfl
  · exact h1 rfl
theorem not_T {Q : Bool → Hp → Prop} (h : Q false H) : NotR true H Q := h
theorem not_F {Q : Bool → Hp → Prop} (h : Q true H) : NotR false H Q := h
theorem not_y {Q : Bool → Hp → Prop} {dP : Decidable P} (e : P) (h : Q false H) : NotR (decide P) H Q := by rw [decide_eq_true e]; exact h
theorem not_n {Q : Bool → Hp → Prop} {dP : Decidable P} (e : ¬ P) (h : Q true H) : NotR (decide P) H Q := by rw [decide_eq_false e]; exact h
theorem not_b {Q : Bool → Hp → Prop} (h : Q (!b) H) : NotR b H Q := h
/-- a value's truth -/
def TruR (K : PySem.W.Frag) (x : V) (H : Hp) (Q : Bool → Hp → Prop) : Prop := ∃ k, TruV K x H k ∧ Q k H
def tTr (K : PySem.W.Frag) (te : TE) : TT := fun σ H Q => te σ H fun x H' => TruR K x H' Q
theorem g_ttr {Q : Bool → Hp → Prop} (h : te σ H fun x H1 => TruR K x H1 Q) : tTr K te σ H Q := h
theorem tru_bl {Q : Bool → Hp → Prop} (h : Q b H) : TruR K (.bl b) H Q := ⟨b, rfl, h⟩
theorem tru_int {Q : Bool → Hp → Prop} (h : Q (decide (i ≠ 0)) H) : TruR K (.int i) H Q := ⟨_, rfl, by
  have e : (i != 0) = decide (i ≠ 0) := by by_cases z : i = 0 <;> simp [z]
  rw [e]; exact h⟩
theorem tru_non {Q : Bool → Hp → Prop} (h : Q false H) : TruR K .non H Q := ⟨_, rfl, h⟩
theorem tru_lst {Q : Bool → Hp → Prop} (e : H a = some (.lst xs)) (h : Q (!xs.isEmpty) H) : TruR K (.ref a) H Q := ⟨_, .inl ⟨xs, SqL.of e, rfl⟩, h⟩
theorem tru_tup {Q : Bool → Hp → Prop} (e : H a = some (.tup xs)) (h : Q (!xs.isEmpty) H) : TruR K (.ref a) H Q := ⟨_, .inr (.inl ⟨xs, SqT.of e, rfl⟩), h⟩

/-! expressions -/
theorem g_c (h : Q v H) : tC v σ H Q := h
theorem g_op (h : ta σ H fun x H1 => tb σ H1 fun y H2 => r x y H2 Q) : tOp r ta tb σ H Q := h
theorem g_un {r : V → Hp → VK → Prop} (h : ta σ H fun x H1 => r x H1 Q) : tUn r ta σ H Q := h
theorem o_i0 {g : Int → Int → V} (h : Q (g i j) H) : rI0 g (.int i) (.int j) H Q := ⟨i, j, rfl, rfl, h⟩
theorem o_i {C : Int → Int → Prop} {g : Int → Int → V} (e : C i j) (h : Q (g i j) H) : rI C g (.int i) (.int j) H Q := ⟨i, j, rfl, rfl, e, h⟩
theorem o_u {g : Int → V} (h : Q (g i) H) : rU g (.int i) H Q := ⟨i, rfl, h⟩
theorem o_add (h : Q (.int (i + j)) H) : rAddI (.int i) (.int j) H Q := ⟨i, j, rfl, rfl, h⟩
theorem o_sub (h : Q (.int (i - j)) H) : rSubI (.int i) (.int j) H Q := ⟨i, j, rfl, rfl, h⟩
theorem o_mul (e : IntMulOk i j) (h : Q (.int (i * j)) H) : rMulI (.int i) (.int j) H Q := ⟨i, j, rfl, rfl, e, h⟩
theorem o_mod (e : 0 < j) (h : Q (.int (i % j)) H) : rModI (.int i) (.int j) H Q := ⟨i, j, rfl, rfl, e, h⟩
theorem o_div (e : CDivW i j) (h : Q (.int (i / j)) H) : rDivI (.int i) (.int j) H Q := ⟨i, j, rfl, rfl, e, h⟩
theorem o_pow {n : Nat} (e : CPow i n) (h : Q (.int (i ^ n)) H) : rPowI (.int i) (.int n) H Q := ⟨i, n, rfl, rfl, e, h⟩
theorem o_lt (h : Q (.bl (decide (i < j))) H) : rLtI (.int i) (.int j) H Q := ⟨i, j, rfl, rfl, h⟩
theorem o_le (h : Q (.bl (decide (i ≤ j))) H) : rLeI (.int i) (.int j) H Q := ⟨i, j, rfl, rfl, h⟩
theorem o_gt (h : Q (.bl (decide (j < i))) H) : rGtI (.int i) (.int j) H Q := ⟨i, j, rfl, rfl, h⟩
theorem o_ge (h : Q (.bl (decide (j ≤ i))) H) : rGeI (.int i) (.int j) H Q := ⟨i, j, rfl, rfl, h⟩
theorem o_or1 (h : r1 x y H Q) : rOr r1 r2 x y H Q := .inl h
theorem o_or2 (h : r2 x y H Q) : rOr r1 r2 x y H Q := .inr h
theorem o_eqI (h : Q (.bl (decide (i = j))) H) : rEq (.int i) (.int j) H Q := ⟨rfl, by
  have e : decide (V.int i = V.int j) = decide (i = j) := by by_cases z : i = j <;> simp [z]
  rw [e]; exact h⟩
theorem o_neI (h : Q (.bl (!decide (i = j))) H) : rNe (.int i) (.int j) H Q := ⟨rfl, by
  have e : decide (V.int i = V.int j) = decide (i = j) := by by_cases z : i = j <;> simp [z]
  rw [e]; exact h⟩
theorem o_eqV (e : scal x y = true) (h : Q (.bl (decide (x = y))) H) : rEq x y H Q := ⟨e, h⟩
theorem o_neV (e : scal x y = true) (h : Q (.bl (!decide (x = y))) H) : rNe x y H Q := ⟨e, h⟩
theorem o_isN (h : Q (.bl (decide (x = .non))) H) : rIsN' x .non H Q := ⟨rfl, h⟩
theorem o_notN (h : Q (.bl (!decide (x = .non))) H) : rNotN' x .non H Q := ⟨rfl, h⟩
theorem o_cat {l m : Addr} (h1 : H l = some (.lst xs)) (h2 : H m = some (.lst ys)) (hz : xs.length + ys.length ≤ 100000) (h : ∀ p H', Fr H p → Same H H' → H' p = some (.lst (xs ++ ys)) → Q (.ref p) H') : rCat (.ref l) (.ref m) H Q :=
  ⟨l, m, xs, ys, rfl, rfl, h1, h2, Nat.le_trans hz (by decide), fun p hp => h p _ ⟨hp⟩ (same_upd hp) upd_same⟩

/-- new objects -/
def AllocL (xs : List V) (H : Hp) (Q : VK) : Prop := xs.length ≤ sizeLine ∧ ∀ p, H p = none → Q (.ref p) (upd H p (.lst xs))
def AllocT (xs : List V) (H : Hp) (Q : VK) : Prop := xs.length ≤ sizeLine ∧ ∀ p, H p = none → Q (.ref p) (upd H p (.tup xs))
theorem g_lst (h : tas σ H fun xs H1 => AllocL xs H1 Q) : tLst tas σ H Q := h
theorem g_tup (h : tas σ H fun xs H1 => AllocT xs H1 Q) : tTup tas σ H Q := h
theorem al_l (hz : xs.length ≤ 100000) (h : ∀ p H', Fr H p → Same H H' → H' p = some (.lst xs) → Q (.ref p) H') : AllocL xs H Q := ⟨Nat.le_trans hz (by decide), fun p hp => h p _ ⟨hp⟩ (same_upd hp) upd_same⟩
theorem al_t (hz : xs.length ≤ 100000) (h : ∀ p H', Fr H p → Same H H' → H' p = some (.tup xs) → Q (.ref p) H') : AllocT xs H Q := ⟨Nat.le_trans hz (by decide), fun p hp => h p _ ⟨hp⟩ (same_upd hp) upd_same⟩
theorem g_nil {Q : List V → Hp → Prop} (h : Q [] H) : tNil σ H Q := h
theorem g_cons {Q : List V → Hp → Prop} (h : te σ H fun x H1 => tas σ H1 fun xs H2 => Q (x :: xs) H2) : tCons te tas σ H Q := h
/-- calls -/
theorem g_call (h : tas σ H fun vs H1 => sp vs H1 Q E) : tCall sp [] E tas σ H Q := by
  have e : (fun (vs : List V) (H1 : Hp) => sp vs H1 Q E) = fun vs H1 => sp (vs ++ []) H1 Q E := by funext vs H1; rw [List.append_nil]
  rw [e] at h
  exact h
def MethR (C : Addr) (m : Str) (sp : Sp) (E : XK) (t : TA) (σ : L2.St) (x : V) (H : Hp) (Q : VK) : Prop := ∃ a dx fs, x = .ref a ∧ H a = some (.ins C dx fs) ∧ fs.lookup m = none ∧ t σ H fun vs H2 => sp (x :: vs) H2 Q E
theorem g_meth {m : Str} (h : ta σ H fun x H1 => MethR C m sp E tas σ x H1 Q) : tMeth C m sp [] E ta tas σ H Q := by
  have e : (fun (x : V) (H1 : Hp) => MethR C m sp E tas σ x H1 Q) = fun x H1 => ∃ a dx fs, x = .ref a ∧ H1 a = some (.ins C dx fs) ∧ fs.lookup m = none ∧ tas σ H1 fun vs H2 => sp (x :: (vs ++ [])) H2 Q E := by
    funext x H1; simp only [List.append_nil]; rfl
  rw [e] at h
  exact h
theorem m_meth {m : Str} (h1 : H a = some (.ins C dx fs)) (hn : fs.lookup m = none) (h : tas σ H fun vs H2 => sp (.ref a :: vs) H2 Q E) : MethR C m sp E tas σ (.ref a) H Q := ⟨a, dx, fs, rfl, h1, hn, h⟩
def MakeR (C : Addr) (sp : Sp) (E : XK) (vs : List V) (H : Hp) (Q : VK) : Prop := ∀ x dx, H x = none → H dx = none → dx ≠ x → sp (.ref x :: vs) (upd (upd H dx (.own x)) x (.ins C dx [])) (fun v H2 => v = .non ∧ Q (.ref x) H2) E
theorem g_make (h : tas σ H fun vs H1 => MakeR C sp E vs H1 Q) : tMake C sp [] E tas σ H Q := by
  have e : (fun (vs : List V) (H1 : Hp) => MakeR C sp E vs H1 Q) = fun vs H1 => ∀ x dx, H1 x = none → H1 dx = none → dx ≠ x → sp (.ref x :: (vs ++ [])) (upd (upd H1 dx (.own x)) x (.ins C dx [])) (fun v H2 => v = .non ∧ Q (.ref x) H2) E := by
    funext vs H1; simp only [List.append_nil]; rfl
  rw [e] at h
  exact h
def FldR (K : PySem.W.Frag) (f : Str) (x : V) (H : Hp) (Q : VK) : Prop := ∃ a C dx fs v, x = .ref a ∧ H a = some (.ins C dx fs) ∧ Cls K C ∧ NoAttr K C f ∧ fs.lookup f = some v ∧ Q v H
theorem g_fld (h : ta σ H fun x H1 => FldR K f x H1 Q) : tFld K ta f σ H Q := h
theorem f_fld (h1 : H a = some (.ins C dx fs)) (hc : Cls K C) (hn : NoAttr K C f) (hl : fs.lookup f = some v) (h : Q v H) : FldR K f (.ref a) H Q := ⟨a, C, dx, fs, v, rfl, h1, hc, hn, hl, h⟩
def PropR (C : Addr) (sp : Sp) (E : XK) (x : V) (H : Hp) (Q : VK) : Prop := ∃ a dx fs, x = .ref a ∧ H a = some (.ins C dx fs) ∧ sp [.ref a] H Q E
theorem g_prop (h : ta σ H fun x H1 => PropR C sp E x H1 Q) : tProp C sp [] E ta σ H Q := h
theorem p_prop (h1 : H a = some (.ins C dx fs)) (h : sp [.ref a] H Q E) : PropR C sp E (.ref a) H Q := ⟨a, dx, fs, rfl, h1, h⟩
def StFld (K : PySem.W.Frag) (f : Str) (y x : V) (nx : L2.St → Hp → Prop) (σ : L2.St) (H : Hp) : Prop := ∃ a C dx fs, x = .ref a ∧ H a = some (.ins C dx fs) ∧ Cls K C ∧ NoAttr K C f ∧ fs.length < 1000 ∧ nx σ (upd H a (.ins C dx (putF f y fs)))
theorem g_sfld {tv : TE} (h : tv σ H fun y H1 => ta σ H1 fun x H2 => StFld K f y x nx σ H2) : sFld K ta tv f ⟨nx, rt, bk, ct⟩ σ H := h
theorem s_fld (h1 : H a = some (.ins C dx fs)) (hc : Cls K C) (hn : NoAttr K C f) (hl : fs.length < 1000) (h : nx σ (upd H a (.ins C dx (putF f y fs)))) : StFld K f y (.ref a) nx σ H := ⟨a, C, dx, fs, rfl, h1, hc, hn, hl, h⟩
theorem s_fldg (h1 : H a = some (.ins C dx fs)) (hc : Cls K C) (hn : NoAttr K C f) (hl : fs.length < 1000) (h : ∀ H', SB a H H' → H' a = some (.ins C dx (putF f y fs)) → nx σ H') : StFld K f y (.ref a) nx σ H := ⟨a, C, dx, fs, rfl, h1, hc, hn, hl, h _ sb_upd upd_same⟩
/-- subscripts -/
theorem ix_l {z : Int} (h1 : H a = some (.lst xs)) (h2 : atI xs z = some v) (h : Q v H) : rIx K (.ref a) (.int z) H Q := .inl ⟨a, xs, z, v, rfl, rfl, SqL.of h1, h2, h⟩
theorem ix_sq {z : Int} (h1 : SqL K H a xs) (h2 : atI xs z = some v) (h : Q v H) : rIx K (.ref a) (.int z) H Q := .inl ⟨a, xs, z, v, rfl, rfl, h1, h2, h⟩
theorem ix_t {z : Int} (h1 : H a = some (.tup xs)) (h2 : atI xs z = some v) (h : Q v H) : rIx K (.ref a) (.int z) H Q := .inr (.inl ⟨a, xs, z, v, rfl, rfl, SqT.of h1, h2, h⟩)
/-- targets -/
theorem g_gnil (h : nx σ H) : gNil [] σ H nx := ⟨rfl, h⟩
theorem g_gcons {t : TG} {u : TGs} (h : t v σ H fun σ' H' => u xs σ' H' nx) : gCons t u (v :: xs) σ H nx := ⟨v, xs, rfl, h⟩
theorem g_gtup {n : Nat} {t : TGs} (h1 : H a = some (.tup xs)) (hl : xs.length = n) (h : t xs σ H nx) : gTup K n t (.ref a) σ H nx := ⟨a, xs, rfl, SqT.of h1, hl, h⟩
def SetLR (o i v : V) (H : Hp) (Q : Hp → Prop) : Prop := rSetL o i v H Q
theorem g_gsub {to ti : TE} {t : TSet} (h : to σ H fun o H1 => ti σ H1 fun i H2 => t o i v H2 fun H3 => nx σ H3) : gSub to ti t v σ H nx := h
theorem s_setl {k : Int} {n : Nat} (h1 : H a = some (.lst xs)) (h2 : ixN xs.length k = some n) {Q : Hp → Prop} (h : ∀ H', SB a H H' → H' a = some (.lst (xs.set n v)) → Q H') : rSetL (.ref a) (.int k) v H Q :=
  ⟨a, xs, k, n, rfl, rfl, h1, h2, h _ sb_upd upd_same⟩
/-- built-in functions -/
theorem g_cb {r : List V → Hp → VK → Prop} (h : tas σ H fun vs H1 => r vs H1 Q) : tCB r tas σ H Q := h
end

/-! slots -/
section
variable {H : Hp} {Q : VK} {nx : L2.St → Hp → Prop} {v : V} {a0 a1 a2 a3 a4 a5 a6 a7 a8 a9 a10 a11 a12 a13 a14 a15 a16 a17 a18 a19 a20 : Option V} {r : L2.St}
theorem gv_0 (h : Q v H) : tVar 0 (some v :: r) H Q := ⟨v, rfl, h⟩
theorem gn_0 (h : nx (some v :: r) H) : gName 0 v (a0 :: r) H nx := h
theorem gv_1 (h : Q v H) : tVar 1 (a0 :: some v :: r) H Q := ⟨v, rfl, h⟩
theorem gn_1 (h : nx (a0 :: some v :: r) H) : gName 1 v (a0 :: a1 :: r) H nx := h
theorem gv_2 (h : Q v H) : tVar 2 (a0 :: a1 :: some v :: r) H Q := ⟨v, rfl, h⟩
theorem gn_2 (h : nx (a0 :: a1 :: some v :: r) H) : gName 2 v (a0 :: a1 :: a2 :: r) H nx := h
theorem gv_3 (h : Q v H) : tVar 3 (a0 :: a1 :: a2 :: some v :: r) H Q := ⟨v, rfl, h⟩
theorem gn_3 (h : nx (a0 :: a1 :: a2 :: some v :: r) H) : gName 3 v (a0 :: a1 :: a2 :: a3 :: r) H nx := h
theorem gv_4 (h : Q v H) : tVar 4 (a0 :: a1 :: a2 :: a3 :: some v :: r) H Q := ⟨v, rfl, h⟩
theorem gn_4 (h : nx (a0 :: a1 :: a2 :: a3 :: some v :: r) H) : gName 4 v (a0 :: a1 :: a2 :: a3 :: a4 :: r) H nx := h
theorem gv_5 (h : Q v H) : tVar 5 (a0 :: a1 :: a2 :: a3 :: a4 :: some v :: r) H Q := ⟨v, rfl, h⟩
theorem gn_5 (h : nx (a0 :: a1 :: a2 :: a3 :: a4 :: some v :: r) H) : gName 5 v (a0 :: a1 :: a2 :: a3 :: a4 :: a5 :: r) H nx := h
theorem gv_6 (h : Q v H) : tVar 6 (a0 :: a1 :: a2 :: a3 :: a4 :: a5 :: some v :: r) H Q := ⟨v, rfl, h⟩
theorem gn_6 (h : nx (a0 :: a1 :: a2 :: a3 :: a4 :: a5 :: some v :: r) H) : gName 6 v (a0 :: a1 :: a2 :: a3 :: a4 :: a5 :: a6 :: r) H nx := h
theorem gv_7 (h : Q v H) : tVar 7 (a0 :: a1 :: a2 :: a3 :: a4 :: a5 :: a6 :: some v :: r) H Q := ⟨v, rfl, h⟩
theorem gn_7 (h : nx (a0 :: a1 :: a2 :: a3 :: a4 :: a5 :: a6 :: some v :: r) H) : gName 7 v (a0 :: a1 :: a2 :: a3 :: a4 :: a5 :: a6 :: a7 :: r) H nx := h
theorem gv_8 (h : Q v H) : tVar 8 (a0 :: a1 :: a2 :: a3 :: a4 :: a5 :: a6 :: a7 :: some v :: r) H Q := ⟨v, rfl, h⟩
theorem gn_8 (h : nx (a0 :: a1 :: a2 :: a3 :: a4 :: a5 :: a6 :: a7 :: some v :: r) H) : gName 8 v (a0 :: a1 :: a2 :: a3 :: a4 :: a5 :: a6 :: a7 :: a8 :: r) H nx := h
theorem gv_9 (h : Q v H) : tVar 9 (a0 :: a1 :: a2 :: a3 :: a4 :: a5 :: a6 :: a7 :: a8 :: some v :: r) H Q := ⟨v, rfl, h⟩
theorem gn_9 (h : nx (a0 :: a1 :: a2 :: a3 :: a4 :: a5 :: a6 :: a7 :: a8 :: some v :: r) H) : gName 9 v (a0 :: a1 :: a2 :: a3 :: a4 :: a5 :: a6 :: a7 :: a8 :: a9 :: r) H nx := h
theorem gv_10 (h : Q v H) : tVar 10 (a0 :: a1 :: a2 :: a3 :: a4 :: a5 :: a6 :: a7 :: a8 :: a9 :: some v :: r) H Q := ⟨v, rfl, h⟩
theorem gn_10 (h : nx (a0 :: a1 :: a2 :: a3 :: a4 :: a5 :: a6 :: a7 :: a8 :: a9 :: some v :: r) H) : gName 10 v (a0 :: a1 :: a2 :: a3 :: a4 :: a5 :: a6 :: a7 :: a8 :: a9 :: a10 :: r) H nx := h
theorem gv_11 (h : Q v H) : tVar 11 (a0 :: a1 :: a2 :: a3 :: a4 :: a5 :: a6 :: a7 :: a8 :: a9 :: a10 :: some v :: r) H Q := ⟨v, rfl, h⟩
theorem gn_11 (h : nx (a0 :: a1 :: a2 :: a3 :: a4 :: a5 :: a6 :: a7 :: a8 :: a9 :: a10 :: some v :: r) H) : gName 11 v (a0 :: a1 :: a2 :: a3 :: a4 :: a5 :: a6 :: a7 :: a8 :: a9 :: a10 :: a11 :: r) H nx := h
theorem gv_12 (h : Q v H) : tVar 12 (a0 :: a1 :: a2 :: a3 :: a4 :: a5 :: a6 :: a7 :: a8 :: a9 :: a10 :: a11 :: some v :: r) H Q := ⟨v, rfl, h⟩
theorem gn_12 (h : nx (a0 :: a1 :: a2 :: a3 :: a4 :: a5 :: a6 :: a7 :: a8 :: a9 :: a10 :: a11 :: some v :: r) H) : gName 12 v (a0 :: a1 :: a2 :: a3 :: a4 :: a5 :: a6 :: a7 :: a8 :: a9 :: a10 :: a11 :: a12 :: r) H nx := h
theorem gv_13 (h : Q v H) : tVar 13 (a0 :: a1 :: a2 :: a3 :: a4 :: a5 :: a6 :: a7 :: a8 :: a9 :: a10 :: a11 :: a12 :: some v :: r) H Q := ⟨v, rfl, h⟩
theorem gn_13 (h : nx (a0 :: a1 :: a2 :: a3 :: a4 :: a5 :: a6 :: a7 :: a8 :: a9 :: a10 :: a11 :: a12 :: some v :: r) H) : gName 13 v (a0 :: a1 :: a2 :: a3 :: a4 :: a5 :: a6 :: a7 :: a8 :: a9 :: a10 :: a11 :: a12 :: a13 :: r) H nx := h
theorem gv_14 (h : Q v H) : tVar 14 (a0 :: a1 :: a2 :: a3 :: a4 :: a5 :: a6 :: a7 :: a8 :: a9 :: a10 :: a11 :: a12 :: a13 :: some v :: r) H Q := ⟨v, rfl, h⟩
theorem gn_14 (h : nx (a0 :: a1 :: a2 :: a3 :: a4 :: a5 :: a6 :: a7 :: a8 :: a9 :: a10 :: a11 :: a12 :: a13 :: some v :: r) H) : gName 14 v (a0 :: a1 :: a2 :: a3 :: a4 :: a5 :: a6 :: a7 :: a8 :: a9 :: a10 :: a11 :: a12 :: a13 :: a14 :: r) H nx := h
theorem gv_15 (h : Q v H) : tVar 15 (a0 :: a1 :: a2 :: a3 :: a4 :: a5 :: a6 :: a7 :: a8 :: a9 :: a10 :: a11 :: a12 :: a13 :: a14 :: some v :: r) H Q := ⟨v, rfl, h⟩
theorem gn_15 (h : nx (a0 :: a1 :: a2 :: a3 :: a4 :: a5 :: a6 :: a7 :: a8 :: a9 :: a10 :: a11 :: a12 :: a13 :: a14 :: some v :: r) H) : gName 15 v (a0 :: a1 :: a2 :: a3 :: a4 :: a5 :: a6 :: a7 :: a8 :: a9 :: a10 :: a11 :: a12 :: a13 :: a14 :: a15 :: r) H nx := h
theorem gv_16 (h : Q v H) : tVar 16 (a0 :: a1 :: a2 :: a3 :: a4 :: a5 :: a6 :: a7 :: a8 :: a9 :: a10 :: a11 :: a12 :: a13 :: a14 :: a15 :: some v :: r) H Q := ⟨v, rfl, h⟩
theorem gn_16 (h : nx (a0 :: a1 :: a2 :: a3 :: a4 :: a5 :: a6 :: a7 :: a8 :: a9 :: a10 :: a11 :: a12 :: a13 :: a14 :: a15 :: some v :: r) H) : gName 16 v (a0 :: a1 :: a2 :: a3 :: a4 :: a5 :: a6 :: a7 :: a8 :: a9 :: a10 :: a11 :: a12 :: a13 :: a14 :: a15 :: a16 :: r) H nx := h
theorem gv_17 (h : Q v H) : tVar 17 (a0 :: a1 :: a2 :: a3 :: a4 :: a5 :: a6 :: a7 :: a8 :: a9 :: a10 :: a11 :: a12 :: a13 :: a14 :: a15 :: a16 :: some v :: r) H Q := ⟨v, rfl, h⟩
theorem gn_17 (h : nx (a0 :: a1 :: a2 :: a3 :: a4 :: a5 :: a6 :: a7 :: a8 :: a9 :: a10 :: a11 :: a12 :: a13 :: a14 :: a15 :: a16 :: some v :: r) H) : gName 17 v (a0 :: a1 :: a2 :: a3 :: a4 :: a5 :: a6 :: a7 :: a8 :: a9 :: a10 :: a11 :: a12 :: a13 :: a14 :: a15 :: a16 :: a17 :: r) H nx := h
theorem gv_18 (h : Q v H) : tVar 18 (a0 :: a1 :: a2 :: a3 :: a4 :: a5 :: a6 :: a7 :: a8 :: a9 :: a10 :: a11 :: a12 :: a13 :: a14 :: a15 :: a16 :: a17 :: some v :: r) H Q := ⟨v, rfl, h⟩
theorem gn_18 (h : nx (a0 :: a1 :: a2 :: a3 :: a4 :: a5 :: a6 :: a7 :: a8 :: a9 :: a10 :: a11 :: a12 :: a13 :: a14 :: a15 :: a16 :: a17 :: some v :: r) H) : gName 18 v (a0 :: a1 :: a2 :: a3 :: a4 :: a5 :: a6 :: a7 :: a8 :: a9 :: a10 :: a11 :: a12 :: a13 :: a14 :: a15 :: a16 :: a17 :: a18 :: r) H nx := h
theorem gv_19 (h : Q v H) : tVar 19 (a0 :: a1 :: a2 :: a3 :: a4 :: a5 :: a6 :: a7 :: a8 :: a9 :: a10 :: a11 :: a12 :: a13 :: a14 :: a15 :: a16 :: a17 :: a18 :: some v :: r) H Q := ⟨v, rfl, h⟩
theorem gn_19 (h : nx (a0 :: a1 :: a2 :: a3 :: a4 :: a5 :: a6 :: a7 :: a8 :: a9 :: a10 :: a11 :: a12 :: a13 :: a14 :: a15 :: a16 :: a17 :: a18 :: some v :: r) H) : gName 19 v (a0 :: a1 :: a2 :: a3 :: a4 :: a5 :: a6 :: a7 :: a8 :: a9 :: a10 :: a11 :: a12 :: a13 :: a14 :: a15 :: a16 :: a17 :: a18 :: a19 :: r) H nx := h
theorem gv_20 (h : Q v H) : tVar 20 (a0 :: a1 :: a2 :: a3 :: a4 :: a5 :: a6 :: a7 :: a8 :: a9 :: a10 :: a11 :: a12 :: a13 :: a14 :: a15 :: a16 :: a17 :: a18 :: a19 :: some v :: r) H Q := ⟨v, rfl, h⟩
theorem gn_20 (h : nx (a0 :: a1 :: a2 :: a3 :: a4 :: a5 :: a6 :: a7 :: a8 :: a9 :: a10 :: a11 :: a12 :: a13 :: a14 :: a15 :: a16 :: a17 :: a18 :: a19 :: some v :: r) H) : gName 20 v (a0 :: a1 :: a2 :: a3 :: a4 :: a5 :: a6 :: a7 :: a8 :: a9 :: a10 :: a11 :: a12 :: a13 :: a14 :: a15 :: a16 :: a17 :: a18 :: a19 :: a20 :: r) H nx := h
end
end L3

/-! ### calls by keywords -/
namespace L3
open PySem L2 PyProof.Rows
def pick {α : Type} (ws : List α) : List Nat → List α
  | [] => []
  | i :: r => match ws[i]? with
    | some x => x :: pick ws r
    | none => pick ws r
def kwg {α : Type} (perm : List Nat) (us ws : List α) : List α := us ++ pick ws perm
theorem pick_rel {zs : List V} {ws : List Value} (h : Vals zs ws) : ∀ perm : List Nat, Vals (pick zs perm) (pick ws perm)
  | [] => .nil
  | i :: r => by
    unfold pick
    cases e : zs[i]? with
    | none => rw [h.none_of e]; exact pick_rel h r
    | some x =>
      obtain ⟨u, e2, rx⟩ := h.get e
      rw [e2]
      exact .cons rx (pick_rel h r)
theorem kbn_mk {K : PySem.W.Frag} {fd : FuncData} {ps ks : List Str} {n : Nat} {perm : List Nat} (h : ∀ (us ws : List Value), us.length = n → ws.length = ks.length → bindArgs fd ⟨us, ks.zip ws⟩ = pure (ps.zip (kwg perm us ws))) :
    KBn K fd ps n ks (fun us ws => kwg perm us ws) (fun vs zs => kwg perm vs zs) :=
  ⟨fun s us ws _ l1 l2 => .of_eq (h us ws l1 l2), fun r1 r2 => r1.append (pick_rel r2 perm)⟩
/-- o.m(e, .., k = v, ..) -/
def tMethK (C : Addr) (m : Str) (n j : Nat) (sp : Sp) (gV : List V → List V → List V) (E : XK) (ta : TE) (t tk : TA) : TE := fun σ H Q => ta σ H fun x H1 => ∃ a dx fs, x = .ref a ∧ H1 a = some (.ins C dx fs) ∧ fs.lookup m = none ∧
  t σ H1 fun vs H2 => tk σ H2 fun zs H3 => (x :: vs).length = n ∧ zs.length = j ∧ sp (gV (x :: vs) zs) H3 Q E
section
variable {X : Cx} {CX : CXT} {k n : Nat} {f C : Addr} {fd : FuncData} {ps ks : List Str} {sp : Sp} {E : XK} {m : Str} {pos apos : Pos} {o e : Expr} {es : List Expr} {kws : List Keyword} {ta : TE} {t tk : TA} {g : List Value → List Value → List Value} {gV : List V → List V → List V}
theorem pe_methK {pl : Sem Bool} (he : PE X o ta) (c : Cls X.K C) (hm : Meth X.K C m f) (F : FnOk X.prog X.w X.K X.mg X.base CX k f fd ps sp) (hr : Room k X.A) (hb : KBn X.K fd ps n ks g gV) (hx : Passes CX X E) (ha : PA X (e :: es) t) (hkw : PK X kws tk)
    (hall : (backToKw pos (keywordEach kws X.env)).all (·.1.isSome) = true := by rfl) (hks : (backToKw pos (keywordEach kws X.env)).filterMap (·.1) = ks := by rfl)
    (hst : starEach (e :: es) X.env = (false, eval e X.env) :: starEach es X.env := by rfl) (hpl : ((backTo pos (starEach (e :: es) X.env)).any (·.1) || (backToKw pos (keywordEach kws X.env)).any (·.1.isNone)) = false := by rfl)
    (ht : eval (.Call (.Attribute o m apos) (e :: es) kws pos) X.env = (do
      let ov ← eval o X.env
      standAt apos.atName
      let (f, first) ← holding [ov] (getMethod ov m pl)
      callWith pos f first (backTo pos (starEach (e :: es) X.env)) (backToKw pos (keywordEach kws X.env))) := by rfl) :
    PE X (.Call (.Attribute o m apos) (e :: es) kws pos) (tMethK C m n ks.length sp gV E ta t tk) := by
  refine ⟨fun pins s σ H Q I h => ?_⟩
  refine PySem.W.methodCall_KW (pl := pl) (thn (he.run pins s σ H _ I h) fun u s1 ⟨x, H1, I1, rx, a, dx, fs, ex, ea, l, q⟩ => ?_) ht
  subst ex
  obtain rfl : u = Value.ref a := rx
  refine getmeth_ok I1 ea c hm l ?_
  refine PySem.W.callWith_KW (first := [.ref a]) (h₀ := X.base) I.ok.mod.kin hm.kp hall (thn (ha.run pos pins s1 σ H1 _ I1 q) fun us s2 ⟨vs, H2, I2, r, q2⟩ => ?_) hpl hst
  refine thn (hkw.run pos pins s2 σ H2 _ I2 q2) fun ws s3 ⟨zs, H3, I3, rz, l1, l2, q3⟩ => ⟨I3.kIn, ?_⟩
  rw [hks]
  exact run_fnN (us := .ref a :: us) (vs := .ref a :: vs) F hr hb hx I3 (.cons rfl r) rz l1 l2 q3
theorem pe_methK0 {pl : Sem Bool} (he : PE X o ta) (c : Cls X.K C) (hm : Meth X.K C m f) (F : FnOk X.prog X.w X.K X.mg X.base CX k f fd ps sp) (hr : Room k X.A) (hb : KBn X.K fd ps n ks g gV) (hx : Passes CX X E) (hkw : PK X kws tk)
    (hall : (backToKw pos (keywordEach kws X.env)).all (·.1.isSome) = true := by rfl) (hks : (backToKw pos (keywordEach kws X.env)).filterMap (·.1) = ks := by rfl)
    (hpl : ((backTo pos (starEach [] X.env)).any (·.1) || (backToKw pos (keywordEach kws X.env)).any (·.1.isNone)) = false := by rfl)
    (ht : eval (.Call (.Attribute o m apos) [] kws pos) X.env = (do
      let ov ← eval o X.env
      standAt apos.atName
      let (f, first) ← holding [ov] (getMethod ov m pl)
      callWith pos f first (backTo pos (starEach [] X.env)) (backToKw pos (keywordEach kws X.env))) := by rfl) :
    PE X (.Call (.Attribute o m apos) [] kws pos) (tMethK C m n ks.length sp gV E ta tNil tk) := by
  refine ⟨fun pins s σ H Q I h => ?_⟩
  refine PySem.W.methodCall_KW (pl := pl) (thn (he.run pins s σ H _ I h) fun u s1 ⟨x, H1, I1, rx, a, dx, fs, ex, ea, l, q⟩ => ?_) ht
  subst ex
  obtain rfl : u = Value.ref a := rx
  refine getmeth_ok I1 ea c hm l ?_
  refine PySem.W.callWith_KW0 (first := [.ref a]) (h₀ := X.base) I.ok.mod.kin hm.kp hall ?_ hpl
  refine thn (hkw.run pos pins s1 σ H1 _ I1 q) fun ws s3 ⟨zs, H3, I3, rz, l1, l2, q3⟩ => ⟨I3.kIn, ?_⟩
  rw [hks]
  exact run_fnN (us := [.ref a]) (vs := [.ref a]) F hr hb hx I3 (.cons rfl .nil) rz l1 l2 q3
theorem ptT {a : Expr} {ta : TE} (ha : PE X a ta) (he : ∀ whole, isTrue a X.env whole = (do let v ← whole; standAt a.pos; holding [v] (truthy v))) : PT X a (tTr X.K ta) := pt_truth ha he
end
section
variable {K : PySem.W.Frag} {C a dx : Addr} {σ : L2.St} {H : Hp} {Q : VK} {ta : TE} {t tk : TA} {sp : Sp} {E : XK} {fs : List (Str × V)} {vs zs : List V} {n j : Nat} {perm : List Nat}
def CallK (n j : Nat) (sp : Sp) (E : XK) (perm : List Nat) (vs zs : List V) (H : Hp) (Q : VK) : Prop := vs.length = n ∧ zs.length = j ∧ sp (kwg perm vs zs) H Q E
def MethKR (C : Addr) (m : Str) (n j : Nat) (sp : Sp) (perm : List Nat) (E : XK) (t tk : TA) (σ : L2.St) (x : V) (H : Hp) (Q : VK) : Prop := ∃ a dx fs, x = .ref a ∧ H a = some (.ins C dx fs) ∧ fs.lookup m = none ∧ t σ H fun vs H2 => tk σ H2 fun zs H3 => CallK n j sp E perm (x :: vs) zs H3 Q
theorem g_methK {m : Str} (h : ta σ H fun x H1 => MethKR C m n j sp perm E t tk σ x H1 Q) : tMethK C m n j sp (fun vs zs => kwg perm vs zs) E ta t tk σ H Q := h
theorem m_methK {m : Str} (h1 : H a = some (.ins C dx fs)) (hn : fs.lookup m = none) (h : t σ H fun vs H2 => tk σ H2 fun zs H3 => CallK n j sp E perm (.ref a :: vs) zs H3 Q) : MethKR C m n j sp perm E t tk σ (.ref a) H Q := ⟨a, dx, fs, rfl, h1, hn, h⟩
theorem g_callK {vs' : List V} (h1 : vs.length = n) (h2 : zs.length = j) (e : kwg perm vs zs = vs') (h : sp vs' H Q E) : CallK n j sp E perm vs zs H Q := ⟨h1, h2, by rw [e]; exact h⟩
theorem g_tcallN (h : t σ H fun vs H1 => tk σ H1 fun zs H2 => CallK n j sp E perm vs zs H2 Q) : tCallN n j sp (fun vs zs => kwg perm vs zs) E t tk σ H Q := h
def MakeKR (C : Addr) (n j : Nat) (sp : Sp) (E : XK) (perm : List Nat) (vs zs : List V) (H : Hp) (Q : VK) : Prop := vs.length = n ∧ zs.length = j ∧ ∀ x dx, H x = none → H dx = none → dx ≠ x → sp (kwg perm (.ref x :: vs) zs) (upd (upd H dx (.own x)) x (.ins C dx [])) (fun v H3 => v = .non ∧ Q (.ref x) H3) E
theorem g_makeK (h : t σ H fun vs H1 => tk σ H1 fun zs H2 => MakeKR C n j sp E perm vs zs H2 Q) : tMakeK C n j sp (fun vs zs => kwg perm vs zs) E t tk σ H Q := h
theorem m_makeK {vs' : V → List V} (h1 : vs.length = n) (h2 : zs.length = j) (e : ∀ x, kwg perm (x :: vs) zs = vs' x) (h : ∀ x dx, H x = none → H dx = none → dx ≠ x → sp (vs' (.ref x)) (upd (upd H dx (.own x)) x (.ins C dx [])) (fun v H3 => v = .non ∧ Q (.ref x) H3) E) : MakeKR C n j sp E perm vs zs H Q :=
  ⟨h1, h2, fun x dx a b c => by rw [e]; exact h x dx a b c⟩
/-- __init__: the instance is new; what it leaves -/
def SpInit (C : Addr) (vs : List V) (fs : List (Str × V)) (ws : List V) (H : Hp) (Q : VK) : Prop := ∃ x dx, vs = .ref x :: ws ∧ H x = some (.ins C dx []) ∧ ∀ H', SB x H H' → H' x = some (.ins C dx fs) → Q .non H'
theorem mk_done {C x dx : Addr} {H H' : Hp} {fs : List (Str × V)} {Q : VK} (h1 : H x = none) (h2 : H dx = none) (e : SB x (upd (upd H dx (.own x)) x (.ins C dx [])) H') (h3 : H' x = some (.ins C dx fs))
    (k : ∀ x dx H', Fr H x → Same H H' → H' x = some (.ins C dx fs) → Q (.ref x) H') : V.non = .non ∧ Q (.ref x) H' := ⟨rfl, k x dx H' ⟨h1⟩ (fun b o q => e b o (ne_of_none q h1) (by rw [upd_ne (ne_of_none q h1), upd_ne (ne_of_none q h2)]; exact q)) h3⟩
end
end L3

/-! ### built-ins, by name -/
namespace L3
open PySem L2 PyProof.Rows
def rInt1 : List V → Hp → VK → Prop := fun xs H Q => (∃ i, xs = [.int i] ∧ Q (.int i) H) ∨ ∃ k, xs = [.bl k] ∧ Q (.int (if k then 1 else 0)) H
def rAbs1 : List V → Hp → VK → Prop := fun xs H Q => ∃ i, xs = [.int i] ∧ Q (.int (if i < 0 then -i else i)) H
def rMax2 : List V → Hp → VK → Prop := fun xs H Q => ∃ i j, xs = [.int i, .int j] ∧ Q (.int (if j > i then j else i)) H
def rMin2 : List V → Hp → VK → Prop := fun xs H Q => ∃ i j, xs = [.int i, .int j] ∧ Q (.int (if j < i then j else i)) H
def rLen (K : PySem.W.Frag) : List V → Hp → VK → Prop := fun xs H Q => ∃ p ys, xs = [.ref p] ∧ (SqL K H p ys ∨ SqT K H p ys) ∧ Q (.int ys.length) H
def rListOf (K : PySem.W.Frag) : List V → Hp → VK → Prop := fun xs H Q => ∃ p ys, xs = [.ref p] ∧ (SqL K H p ys ∨ SqT K H p ys) ∧ ∀ l, H l = none → Q (.ref l) (upd H l (.lst ys))
section
variable {X : Cx}
theorem c_int1 : CallR X (.type "int") rInt1 := call_int1
theorem c_abs : CallR X (.builtin "abs") rAbs1 := call_abs
theorem c_max2 (hc : X.calm = true) : CallR X (.builtin "max") rMax2 := call_max2 hc
theorem c_min2 (hc : X.calm = true) : CallR X (.builtin "min") rMin2 := call_min2 hc
theorem c_len : CallR X (.builtin "len") (rLen X.K) := call_len_seq
theorem c_list : CallR X (.type "list") (rListOf X.K) := call_list_of
end
section
variable {K : PySem.W.Frag} {a : Addr} {H : Hp} {Q : VK} {i j n z : Int} {b : Bool} {xs r : List V} {v x : V}
theorem b_int (h : Q (.int i) H) : rInt1 [.int i] H Q := .inl ⟨i, rfl, h⟩
theorem b_intb (h : Q (.int (if b then 1 else 0)) H) : rInt1 [.bl b] H Q := .inr ⟨b, rfl, h⟩
theorem b_abs (h : Q (.int (if i < 0 then -i else i)) H) : rAbs1 [.int i] H Q := ⟨i, rfl, h⟩
theorem b_max2 (h : Q (.int (if j > i then j else i)) H) : rMax2 [.int i, .int j] H Q := ⟨i, j, rfl, h⟩
theorem b_min2 (h : Q (.int (if j < i then j else i)) H) : rMin2 [.int i, .int j] H Q := ⟨i, j, rfl, h⟩
theorem b_len (h1 : H a = some (.lst xs)) (hn : (xs.length : Int) = n) (h : Q (.int n) H) : rLen K [.ref a] H Q := ⟨a, xs, rfl, .inl (SqL.of h1), by rw [hn]; exact h⟩
theorem b_lent (h1 : H a = some (.tup xs)) (hn : (xs.length : Int) = n) (h : Q (.int n) H) : rLen K [.ref a] H Q := ⟨a, xs, rfl, .inr (SqT.of h1), by rw [hn]; exact h⟩
theorem b_lenq (h1 : SqL K H a xs) (hn : (xs.length : Int) = n) (h : Q (.int n) H) : rLen K [.ref a] H Q := ⟨a, xs, rfl, .inl h1, by rw [hn]; exact h⟩
theorem b_list (h1 : H a = some (.lst xs)) (h : ∀ p H', Fr H p → Same H H' → H' p = some (.lst xs) → Q (.ref p) H') : rListOf K [.ref a] H Q := ⟨a, xs, rfl, .inl (SqL.of h1), fun p hp => h p _ ⟨hp⟩ (same_upd hp) upd_same⟩
theorem b_listt (h1 : H a = some (.tup xs)) (h : ∀ p H', Fr H p → Same H H' → H' p = some (.lst xs) → Q (.ref p) H') : rListOf K [.ref a] H Q := ⟨a, xs, rfl, .inr (SqT.of h1), fun p hp => h p _ ⟨hp⟩ (same_upd hp) upd_same⟩
theorem s_set0 {Q : Hp → Prop} (h1 : H a = some (.lst (x :: r))) (h : ∀ H', SB a H H' → H' a = some (.lst (v :: r)) → Q H') : rSetL (.ref a) (.int 0) v H Q :=
  ⟨a, x :: r, 0, 0, rfl, rfl, h1, by
    unfold ixN
    rw [if_pos (by decide), if_pos (by rw [List.length_cons]; omega)]
    rfl, h _ sb_upd upd_same⟩
/-- an item of a list all of whose items are so -/
theorem ix_all {P : V → Prop} (h1 : H a = some (.lst xs)) (h0 : 0 ≤ z) (hz : z < xs.length) (hP : ∀ v ∈ xs, P v) (h : ∀ v, P v → Q v H) : rIx K (.ref a) (.int z) H Q := by
  have e : z = ((z.toNat : Nat) : Int) := by omega
  have hlt : z.toNat < xs.length := by omega
  exact ix_l h1 (v := xs[z.toNat]) (at_of e (by simp [hlt])) (h _ (hP _ (List.getElem_mem hlt)))
theorem ix_at {k : Nat} (h1 : H a = some (.lst xs)) (hz : z = k) (hv : xs[k]? = some v) (h : Q v H) : rIx K (.ref a) (.int z) H Q := ix_l h1 (by rw [hz]; exact atI_nat hv) h
theorem o_powc {k : Int} (e : CPow i j) (hk : i ^ j.toNat = k) (h : Q (.int k) H) : rPowI (.int i) (.int j) H Q := ⟨i, j, rfl, rfl, e, by show Q (V.int (i ^ j.toNat)) H; rw [hk]; exact h⟩
end
end L3

/-! ### more rests, data, loops, comprehensions -/
namespace L3
open PySem L2 PyProof.Rows
theorem q_y {Q : VK} {H : Hp} {P : Prop} {dP : Decidable P} (e : P) (h : Q (.bl true) H) : Q (.bl (decide P)) H := by rw [decide_eq_true e]; exact h
theorem q_n {Q : VK} {H : Hp} {P : Prop} {dP : Decidable P} (e : ¬ P) (h : Q (.bl false) H) : Q (.bl (decide P)) H := by rw [decide_eq_false e]; exact h
section
variable {K : PySem.W.Frag} {a : Addr} {σ : L2.St} {H : Hp} {Q : VK} {i j : Int} {x y v : V} {b : Bool} {P : Prop} {xs ys : List V} {ta tb te tl : TE} {t u : TT} {g : TG} {ts : TS} {D : Ends} {nx bk ct : L2.St → Hp → Prop} {rt : VK} {tas : TA}
def AndVR (x : V) (tb : TE) (σ : L2.St) (H : Hp) (Q : VK) : Prop := ∃ c, x = .bl c ∧ if c = true then tb σ H Q else Q (.bl false) H
def OrVR (x : V) (tb : TE) (σ : L2.St) (H : Hp) (Q : VK) : Prop := ∃ c, x = .bl c ∧ if c = true then Q (.bl true) H else tb σ H Q
def NotVR (x : V) (H : Hp) (Q : VK) : Prop := ∃ c, x = .bl c ∧ Q (.bl (!c)) H
def NotTR (K : PySem.W.Frag) (x : V) (H : Hp) (Q : VK) : Prop := ∃ k, TruV K x H k ∧ Q (.bl (!k)) H
def IfER (b : Bool) (ta tb : TE) (σ : L2.St) (H : Hp) (Q : VK) : Prop := if b = true then ta σ H Q else tb σ H Q
theorem g_andv (h : ta σ H fun x H1 => AndVR x tb σ H1 Q) : tAndV ta tb σ H Q := h
theorem g_orv (h : ta σ H fun x H1 => OrVR x tb σ H1 Q) : tOrV ta tb σ H Q := h
theorem g_notv (h : ta σ H fun x H1 => NotVR x H1 Q) : tNotV ta σ H Q := h
theorem g_nott (h : ta σ H fun x H1 => NotTR K x H1 Q) : tNotT K ta σ H Q := h
theorem g_ife (h : t σ H fun b H1 => IfER b ta tb σ H1 Q) : tIf t ta tb σ H Q := h
theorem andv_T (h : tb σ H Q) : AndVR (.bl true) tb σ H Q := ⟨true, rfl, h⟩
theorem andv_F (h : Q (.bl false) H) : AndVR (.bl false) tb σ H Q := ⟨false, rfl, h⟩
theorem andv_y {dP : Decidable P} (e : P) (h : tb σ H Q) : AndVR (.bl (decide P)) tb σ H Q := by rw [decide_eq_true e]; exact andv_T h
theorem andv_n {dP : Decidable P} (e : ¬ P) (h : Q (.bl false) H) : AndVR (.bl (decide P)) tb σ H Q := by rw [decide_eq_false e]; exact andv_F h
theorem andv_2 {dP : Decidable P} (h1 : P → tb σ H Q) (h2 : ¬ P → Q (.bl false) H) : AndVR (.bl (decide P)) tb σ H Q := by
  by_cases h : P
  · exact andv_y h (h1 h)
  · exact andv_n h (h2 h)
theorem orv_T (h : Q (.bl true) H) : OrVR (.bl true) tb σ H Q := ⟨true, rfl, h⟩
theorem orv_F (h : tb σ H Q) : OrVR (.bl false) tb σ H Q := ⟨false, rfl, h⟩
theorem orv_y {dP : Decidable P} (e : P) (h : Q (.bl true) H) : OrVR (.bl (decide P)) tb σ H Q := by rw [decide_eq_true e]; exact orv_T h
theorem orv_n {dP : Decidable P} (e : ¬ P) (h : tb σ H Q) : OrVR (.bl (decide P)) tb σ H Q := by rw [decide_eq_false e]; exact orv_F h
theorem notv_T (h : Q (.bl false) H) : NotVR (.bl true) H Q := ⟨true, rfl, h⟩
theorem notv_F (h : Q (.bl true) H) : NotVR (.bl false) H Q := ⟨false, rfl, h⟩
theorem notv_y {dP : Decidable P} (e : P) (h : Q (.bl false) H) : NotVR (.bl (decide P)) H Q := by rw [decide_eq_true e]; exact notv_T h
theorem notv_n {dP : Decidable P} (e : ¬ P) (h : Q (.bl true) H) : NotVR (.bl (decide P)) H Q := by rw [decide_eq_false e]; exact notv_F h
theorem notv_b (h : Q (.bl (!b)) H) : NotVR (.bl b) H Q := ⟨b, rfl, h⟩
theorem nott_bl (h : NotVR (.bl b) H Q) : NotTR K (.bl b) H Q := by obtain ⟨c, e, q⟩ := h; cases e; exact ⟨b, rfl, q⟩
theorem ife_T (h : ta σ H Q) : IfER true ta tb σ H Q := h
theorem ife_F (h : tb σ H Q) : IfER false ta tb σ H Q := h
theorem ife_y {dP : Decidable P} (e : P) (h : ta σ H Q) : IfER (decide P) ta tb σ H Q := by rw [decide_eq_true e]; exact h
theorem ife_n {dP : Decidable P} (e : ¬ P) (h : tb σ H Q) : IfER (decide P) ta tb σ H Q := by rw [decide_eq_false e]; exact h
theorem ife_2 {dP : Decidable P} (h1 : P → ta σ H Q) (h2 : ¬ P → tb σ H Q) : IfER (decide P) ta tb σ H Q := by
  by_cases h : P
  · exact ife_y h (h1 h)
  · exact ife_n h (h2 h)
theorem ife_b (h1 : b = true → ta σ H Q) (h2 : b = false → tb σ H Q) : IfER b ta tb σ H Q := by
  cases b
  · exact h2 rfl
  · exact h1 rfl

/-! isinstance of an int -/
theorem isi_ii (h : Q (.bl true) H) : rIsi K [.int i, .ty "int"] H Q := ⟨_, _, _, _, true, rfl, .ty _, .base (.int i), kit_ty (by decide +kernel), h⟩
theorem isi_ib (h : Q (.bl false) H) : rIsi K [.int i, .ty "bool"] H Q := ⟨_, _, _, _, false, rfl, .ty _, .base (.int i), kit_ty (by decide +kernel), h⟩
theorem isi_bb (h : Q (.bl true) H) : rIsi K [.bl b, .ty "bool"] H Q := ⟨_, _, _, _, true, rfl, .ty _, .base (.bl b), kit_ty (by decide +kernel), h⟩
theorem isi_bi (h : Q (.bl true) H) : rIsi K [.bl b, .ty "int"] H Q := ⟨_, _, _, _, true, rfl, .ty _, .base (.bl b), kit_ty (by decide +kernel), h⟩
theorem isi_ll (h1 : H a = some (.lst xs)) (h : Q (.bl true) H) : rIsi K [.ref a, .ty "list"] H Q := ⟨_, _, _, _, true, rfl, .ty _, .base (.lst h1), kit_ty (by decide +kernel), h⟩
theorem isi_tt (h1 : H a = some (.tup xs)) (h : Q (.bl true) H) : rIsi K [.ref a, .ty "tuple"] H Q := ⟨_, _, _, _, true, rfl, .ty _, .base (.tup h1), kit_ty (by decide +kernel), h⟩
end

/-! ### a target that takes a tuple or a list -/
def gOr (g1 g2 : TG) : TG := fun v σ H Q => g1 v σ H Q ∨ g2 v σ H Q
theorem pg_or {X : Cx} {tg : Expr} {g1 g2 : TG} (h1 : PG X tg g1) (h2 : PG X tg g2) : PG X tg (gOr g1 g2) :=
  ⟨fun pins s σ H v u Q I r h => h.elim (fun h => h1.run pins s σ H v u Q I r h) fun h => h2.run pins s σ H v u Q I r h⟩
section
variable {K : PySem.W.Frag} {a : Addr} {σ : L2.St} {H : Hp} {v : V} {xs : List V} {g1 g2 : TG} {t : TGs} {n : Nat} {nx : L2.St → Hp → Prop}
theorem g_or1 (h : g1 v σ H nx) : gOr g1 g2 v σ H nx := .inl h
theorem g_or2 (h : g2 v σ H nx) : gOr g1 g2 v σ H nx := .inr h
theorem g_glst (h1 : H a = some (.lst xs)) (hl : xs.length = n) (h : t xs σ H nx) : gLst K n t (.ref a) σ H nx := ⟨a, xs, rfl, SqL.of h1, hl, h⟩
end

/-! ### data seen as PyData -/
/-- v is data told by d, as the heap stands -/
theorem dp_ints {K : PySem.W.Frag} {H : Hp} : ∀ ns : List Int, DpAll K H (ns.map V.int) (ns.map PyData.int)
  | [] => .nil
  | n :: ns => .cons (.int n) (dp_ints ns)
theorem lay_ints : ∀ ns : List Int, PyData.canLayAll0 (ns.map PyData.int) = true
  | [] => by simp [PyData.canLayAll0]
  | n :: ns => by simp [PyData.canLayAll0, PyData.canLay0, lay_ints ns]
theorem depth_ints : ∀ ns : List Int, PyData.depthAll (ns.map PyData.int) ≤ 1
  | [] => by simp [PyData.depthAll]
  | n :: ns => by
    have h1 := depth_ints ns
    simp only [List.map_cons, PyData.depthAll, PyData.depth]
    omega
theorem shaped_ints (ns : List Int) : SeqAt.shaped (.list (ns.map PyData.int)) = true := by
  have h1 := depth_ints ns
  have h2 : PyData.depth (.list (ns.map PyData.int)) ≤ 64 := by
    simp only [PyData.depth]
    omega
  show (PyData.canLay0 (.list (ns.map PyData.int)) && decide (PyData.depth (.list (ns.map PyData.int)) ≤ 64)) = true
  rw [Bool.and_eq_true]
  exact ⟨by simp only [PyData.canLay0]; exact lay_ints ns, decide_eq_true h2⟩
theorem shaped_tints (ns : List Int) : SeqAt.shaped (.tuple (ns.map PyData.int)) = true := by
  have h1 := depth_ints ns
  have h2 : PyData.depth (.tuple (ns.map PyData.int)) ≤ 64 := by
    simp only [PyData.depth]
    omega
  show (PyData.canLay0 (.tuple (ns.map PyData.int)) && decide (PyData.depth (.tuple (ns.map PyData.int)) ≤ 64)) = true
  rw [Bool.and_eq_true]
  exact ⟨by simp only [PyData.canLay0]; exact lay_ints ns, decide_eq_true h2⟩
theorem eqv_ints : ∀ ns ms : List Int, PyData.eqvAll (ns.map PyData.int) (ms.map PyData.int) = decide (ns = ms)
  | [], [] => by simp [PyData.eqvAll]
  | [], _ :: _ => by simp [PyData.eqvAll]
  | _ :: _, [] => by simp [PyData.eqvAll]
  | n :: ns, m :: ms => by
    simp only [List.map_cons, PyData.eqvAll, PyData.eqv, eqv_ints ns ms]
    by_cases h1 : n = m
    · by_cases h2 : ns = ms
      · simp [h1, h2]
      · simp [h1, h2]
    · simp [h1]
/-- a list of ints by its ints -/
inductive Ints : List V → List Int → Prop
  | nil : Ints [] []
  | cons {n : Int} {xs : List V} {ns : List Int} (h : Ints xs ns) : Ints (.int n :: xs) (n :: ns)
theorem Ints.eq : ∀ {xs : List V} {ns : List Int}, Ints xs ns → xs = ns.map V.int
  | _, _, .nil => rfl
  | _, _, .cons h => by rw [List.map_cons, ← h.eq]
theorem Ints.of : ∀ ns : List Int, Ints (ns.map V.int) ns
  | [] => .nil
  | _ :: ns => .cons (Ints.of ns)
section
variable {K : PySem.W.Frag} {a c : Addr} {H : Hp} {Q : VK} {xs ys : List V} {ns ms : List Int}
theorem o_eql (h1 : H a = some (.lst xs)) (h2 : H c = some (.lst ys)) (e1 : Ints xs ns) (e2 : Ints ys ms) (h : Q (.bl (decide (ns = ms))) H) : rEqD K (.ref a) (.ref c) H Q := by
  rw [e1.eq] at h1
  rw [e2.eq] at h2
  refine ⟨.list (ns.map PyData.int), .list (ms.map PyData.int), .lst (SqL.of h1) (dp_ints ns), .lst (SqL.of h2) (dp_ints ms), shaped_ints ns, shaped_ints ms, ?_⟩
  rw [PyData.eqv, eqv_ints]
  exact h
theorem o_nel (h1 : H a = some (.lst xs)) (h2 : H c = some (.lst ys)) (e1 : Ints xs ns) (e2 : Ints ys ms) (h : Q (.bl (!decide (ns = ms))) H) : rNeD K (.ref a) (.ref c) H Q := by
  rw [e1.eq] at h1
  rw [e2.eq] at h2
  refine ⟨.list (ns.map PyData.int), .list (ms.map PyData.int), .lst (SqL.of h1) (dp_ints ns), .lst (SqL.of h2) (dp_ints ms), shaped_ints ns, shaped_ints ms, ?_⟩
  rw [PyData.eqv, eqv_ints]
  exact h
theorem o_eqt (h1 : H a = some (.tup xs)) (h2 : H c = some (.tup ys)) (e1 : Ints xs ns) (e2 : Ints ys ms) (h : Q (.bl (decide (ns = ms))) H) : rEqD K (.ref a) (.ref c) H Q := by
  rw [e1.eq] at h1
  rw [e2.eq] at h2
  refine ⟨.tuple (ns.map PyData.int), .tuple (ms.map PyData.int), .tup (SqT.of h1) (dp_ints ns), .tup (SqT.of h2) (dp_ints ms), shaped_tints ns, shaped_tints ms, ?_⟩
  rw [PyData.eqv, eqv_ints]
  exact h
theorem o_net (h1 : H a = some (.tup xs)) (h2 : H c = some (.tup ys)) (e1 : Ints xs ns) (e2 : Ints ys ms) (h : Q (.bl (!decide (ns = ms))) H) : rNeD K (.ref a) (.ref c) H Q := by
  rw [e1.eq] at h1
  rw [e2.eq] at h2
  refine ⟨.tuple (ns.map PyData.int), .tuple (ms.map PyData.int), .tup (SqT.of h1) (dp_ints ns), .tup (SqT.of h2) (dp_ints ms), shaped_tints ns, shaped_tints ms, ?_⟩
  rw [PyData.eqv, eqv_ints]
  exact h
/-- equal data, at any depth -/
theorem o_eqd {x y : V} {d : PyData} (h1 : Dp K H x d) (h2 : Dp K H y d) (hs : SeqAt.shaped d = true) (h : Q (.bl true) H) : rEqD K x y H Q :=
  ⟨d, d, h1, h2, hs, hs, by rw [SeqAt.eqv_refl d (SeqAt.canLay_of_shaped hs)]; exact h⟩
end

/-! ### loops -/
section
variable {K : PySem.W.Frag} {a : Addr} {σ : L2.St} {H : Hp} {Q : VK} {xs : List V} {tl te : TE} {g : TG} {tb : TS} {tt : TT} {nx bk ct : L2.St → Hp → Prop} {rt : VK} {ta : TA} {vs : List Nat}
def ForL (K : PySem.W.Frag) (g : TG) (tb : TS) (D : Ends) (σ : L2.St) (x : V) (H1 : Hp) : Prop := ∃ a, x = .ref a ∧ (∃ xs, SqL K H1 a xs) ∧ ∃ W : Nat → Nat → L2.St → Hp → Prop, (∃ m, W 0 m σ H1) ∧ ∀ i m σ H, W i m σ H →
  ((Itl K a).stop i H ∧ D.nx σ H) ∨ ((Itl K a).go i H ∧ ∃ N : L2.St → Hp → Prop, (∀ σ' H', N σ' H' → ∃ m', m' < m ∧ W (i + 1) m' σ' H') ∧ ∀ x H', (Itl K a).yld i H x H' → g x σ H' fun σ2 H2 => tb { D with nx := N, ct := N, bk := D.nx } σ2 H2)
def ForR (lo : Int) (n : Nat) (g : TG) (tb : TS) (D : Ends) (σ : L2.St) (H1 : Hp) : Prop := ∃ W : Nat → Nat → L2.St → Hp → Prop, (∃ m, W 0 m σ H1) ∧ ∀ i m σ H, W i m σ H →
  ((Itr lo n).stop i H ∧ D.nx σ H) ∨ ((Itr lo n).go i H ∧ ∃ N : L2.St → Hp → Prop, (∀ σ' H', N σ' H' → ∃ m', m' < m ∧ W (i + 1) m' σ' H') ∧ ∀ x H', (Itr lo n).yld i H x H' → g x σ H' fun σ2 H2 => tb { D with nx := N, ct := N, bk := D.nx } σ2 H2)
def ForR1 (g : TG) (tb : TS) (D : Ends) (σ : L2.St) (vs : List V) (H1 : Hp) : Prop := ∃ j : Int, vs = [.int j] ∧ -(2 ^ 62) ≤ j ∧ j < 2 ^ 62 ∧ ForR 0 j.toNat g tb D σ H1
def ForR2 (g : TG) (tb : TS) (D : Ends) (σ : L2.St) (vs : List V) (H1 : Hp) : Prop := ∃ i j : Int, vs = [.int i, .int j] ∧ (-(2 ^ 62) ≤ i ∧ i < 2 ^ 62 ∧ -(2 ^ 62) ≤ j ∧ j < 2 ^ 62) ∧ ForR i (j - i).toNat g tb D σ H1
theorem g_forl (h : tl σ H fun x H1 => ForL K g tb ⟨nx, rt, bk, ct⟩ σ x H1) : tFor (iList K tl) g tb ⟨nx, rt, bk, ct⟩ σ H := h
theorem g_for1 (h : ta σ H fun vs H1 => ForR1 g tb ⟨nx, rt, bk, ct⟩ σ vs H1) : tFor (iRng1 ta) g tb ⟨nx, rt, bk, ct⟩ σ H := h
theorem g_for2 (h : ta σ H fun vs H1 => ForR2 g tb ⟨nx, rt, bk, ct⟩ σ vs H1) : tFor (iRng2 ta) g tb ⟨nx, rt, bk, ct⟩ σ H := h
/-- a list that stands still -/
theorem f_list (Pv : Nat → L2.St → Hp → Prop) (h1 : SqL K H a xs) (h0 : Pv 0 σ H) (hl : ∀ i σ H', i ≤ xs.length → Pv i σ H' → SqL K H' a xs)
    (hs : ∀ i x σ H', xs[i]? = some x → Pv i σ H' → g x σ H' fun σ2 H2 => tb ⟨Pv (i + 1), rt, nx, Pv (i + 1)⟩ σ2 H2) (hd : ∀ σ H', Pv xs.length σ H' → nx σ H') : ForL K g tb ⟨nx, rt, bk, ct⟩ σ (.ref a) H :=
  ⟨a, rfl, ⟨xs, h1⟩, for_list (D := ⟨nx, rt, bk, ct⟩) Pv h0 hl hs hd⟩
theorem f_rng1 {j : Int} (Pv : Nat → L2.St → Hp → Prop) (b1 : -(2 ^ 62) ≤ j) (b2 : j < 2 ^ 62) (h0 : Pv 0 σ H)
    (hs : ∀ (i : Nat) σ H', (i : Int) < j → Pv i σ H' → g (.int i) σ H' fun σ2 H2 => tb ⟨Pv (i + 1), rt, nx, Pv (i + 1)⟩ σ2 H2) (hd : ∀ σ H', Pv j.toNat σ H' → nx σ H') : ForR1 g tb ⟨nx, rt, bk, ct⟩ σ [.int j] H :=
  ⟨j, rfl, b1, b2, for_range (D := ⟨nx, rt, bk, ct⟩) Pv h0 (fun i σ H hi p => by rw [Int.zero_add]; exact hs i σ H (by omega) p) hd⟩
theorem f_rng2 {i j : Int} (Pv : Nat → L2.St → Hp → Prop) (b : -(2 ^ 62) ≤ i ∧ i < 2 ^ 62 ∧ -(2 ^ 62) ≤ j ∧ j < 2 ^ 62) (h0 : Pv 0 σ H)
    (hs : ∀ (k : Nat) σ H', i + (k : Int) < j → Pv k σ H' → g (.int (i + k)) σ H' fun σ2 H2 => tb ⟨Pv (k + 1), rt, nx, Pv (k + 1)⟩ σ2 H2) (hd : ∀ σ H', Pv (j - i).toNat σ H' → nx σ H') : ForR2 g tb ⟨nx, rt, bk, ct⟩ σ [.int i, .int j] H :=
  ⟨i, j, rfl, b, for_range (D := ⟨nx, rt, bk, ct⟩) Pv h0 (fun k σ H hi p => hs k σ H (by omega) p) hd⟩

/-! comprehensions: what each item gives (none: dropped), by a function -/
def LcE (R : Option V → Hp → Prop) (te : TE) (b : Bool) (σ : L2.St) (H : Hp) : Prop := if b = true then te σ H fun y H4 => R (some y) H4 else R none H
/-- one turn: the target, the test, the item -/
def LcT (g : TG) (tt : TT) (te : TE) (vs : List Nat) (σ : L2.St) (x : V) (H : Hp) (R : Option V → Hp → Prop) : Prop := g x (wipe σ vs) H fun σ2 H2 => wipe σ2 vs = wipe σ vs ∧ tt σ2 H2 fun b H3 => LcE R te b σ2 H3
theorem lce_T {R : Option V → Hp → Prop} (h : te σ H fun y H4 => R (some y) H4) : LcE R te true σ H := h
theorem lce_F {R : Option V → Hp → Prop} (h : R none H) : LcE R te false σ H := h
theorem lce_y {R : Option V → Hp → Prop} {P : Prop} {dP : Decidable P} (e : P) (h : te σ H fun y H4 => R (some y) H4) : LcE R te (decide P) σ H := by rw [decide_eq_true e]; exact h
theorem lce_n {R : Option V → Hp → Prop} {P : Prop} {dP : Decidable P} (e : ¬ P) (h : R none H) : LcE R te (decide P) σ H := by rw [decide_eq_false e]; exact h
theorem lce_not {R : Option V → Hp → Prop} {b : Bool} (h1 : b = false → te σ H fun y H4 => R (some y) H4) (h2 : b = true → R none H) : LcE R te (!b) σ H := by
  cases b
  · exact h1 rfl
  · exact h2 rfl
theorem lce_b {R : Option V → Hp → Prop} {b : Bool} (h1 : b = true → te σ H fun y H4 => R (some y) H4) (h2 : b = false → R none H) : LcE R te b σ H := by
  cases b
  · exact h2 rfl
  · exact h1 rfl
theorem g_yes {Q : Bool → Hp → Prop} (h : Q true H) : tYes σ H Q := h
def LcL (K : PySem.W.Frag) (g : TG) (tt : TT) (te : TE) (vs : List Nat) (σ : L2.St) (x : V) (H1 : Hp) (Q : VK) : Prop := ∃ a, x = .ref a ∧ (∃ xs, SqL K H1 a xs) ∧ ∀ D, H1 D = none → ∃ W : Nat → Nat → Hp → Prop, (∃ m, W 0 m (upd H1 D (.lst []))) ∧ ∀ i m H, W i m H →
  ((Itl K a).stop i H ∧ Q (.ref D) H) ∨ ((Itl K a).go i H ∧ ∃ Nx : Hp → Prop, (∀ H', Nx H' → ∃ m', m' < m ∧ W (i + 1) m' H') ∧ ∀ x H', (Itl K a).yld i H x H' → g x (wipe σ vs) H' fun σ2 H2 => wipe σ2 vs = wipe σ vs ∧ tt σ2 H2 fun b H3 =>
    if b = true then te σ2 H3 fun y H4 => ∃ acc, H4 D = some (.lst acc) ∧ acc.length < sizeLine ∧ Nx (upd H4 D (.lst (acc ++ [y]))) else Nx H3)
def LcR (lo : Int) (n : Nat) (g : TG) (tt : TT) (te : TE) (vs : List Nat) (σ : L2.St) (H1 : Hp) (Q : VK) : Prop := ∀ D, H1 D = none → ∃ W : Nat → Nat → Hp → Prop, (∃ m, W 0 m (upd H1 D (.lst []))) ∧ ∀ i m H, W i m H →
  ((Itr lo n).stop i H ∧ Q (.ref D) H) ∨ ((Itr lo n).go i H ∧ ∃ Nx : Hp → Prop, (∀ H', Nx H' → ∃ m', m' < m ∧ W (i + 1) m' H') ∧ ∀ x H', (Itr lo n).yld i H x H' → g x (wipe σ vs) H' fun σ2 H2 => wipe σ2 vs = wipe σ vs ∧ tt σ2 H2 fun b H3 =>
    if b = true then te σ2 H3 fun y H4 => ∃ acc, H4 D = some (.lst acc) ∧ acc.length < sizeLine ∧ Nx (upd H4 D (.lst (acc ++ [y]))) else Nx H3)
def LcR1 (g : TG) (tt : TT) (te : TE) (vs : List Nat) (σ : L2.St) (us : List V) (H1 : Hp) (Q : VK) : Prop := ∃ j : Int, us = [.int j] ∧ -(2 ^ 62) ≤ j ∧ j < 2 ^ 62 ∧ LcR 0 j.toNat g tt te vs σ H1 Q
def LcR2 (g : TG) (tt : TT) (te : TE) (vs : List Nat) (σ : L2.St) (us : List V) (H1 : Hp) (Q : VK) : Prop := ∃ i j : Int, us = [.int i, .int j] ∧ (-(2 ^ 62) ≤ i ∧ i < 2 ^ 62 ∧ -(2 ^ 62) ≤ j ∧ j < 2 ^ 62) ∧ LcR i (j - i).toNat g tt te vs σ H1 Q
theorem g_lcl (h : tl σ H fun x H1 => LcL K g tt te vs σ x H1 Q) : tLc (iList K tl) g tt te vs σ H Q := h
theorem g_lc1 (h : ta σ H fun us H1 => LcR1 g tt te vs σ us H1 Q) : tLc (iRng1 ta) g tt te vs σ H Q := h
theorem g_lc2 (h : ta σ H fun us H1 => LcR2 g tt te vs σ us H1 Q) : tLc (iRng2 ta) g tt te vs σ H Q := h
theorem take_fm {f : V → Option V} {xs : List V} {i : Nat} {x : V} (h : xs[i]? = some x) : (xs.take (i + 1)).filterMap f = (xs.take i).filterMap f ++ (match f x with | some y => [y] | none => []) := by
  rw [List.take_add_one, h, List.filterMap_append]
  show _ ++ List.filterMap f [x] = _
  rw [List.filterMap_cons, List.filterMap_nil]
  cases f x <;> rfl
theorem fm_len {f : V → Option V} : ∀ xs : List V, (xs.filterMap f).length ≤ xs.length
  | [] => Nat.le_refl _
  | x :: xs => by
    have := fm_len (f := f) xs
    rw [List.filterMap_cons]
    cases f x
    · show (xs.filterMap f).length ≤ _; rw [List.length_cons]; omega
    · show (_ :: xs.filterMap f).length ≤ _; rw [List.length_cons, List.length_cons]; omega
/-- a comprehension over a list; its items make nothing that stays in it -/
theorem lc_fun (f : V → Option V) (h1 : SqL K H a xs) (hz : xs.length ≤ 100000)
    (hs : ∀ x ∈ xs, ∀ H1, Same H H1 → ∀ R : Option V → Hp → Prop, (∀ H2, Same H1 H2 → R (f x) H2) → LcT g tt te vs σ x H1 R)
    (k : ∀ D H', Fr H D → Same H H' → H' D = some (.lst (xs.filterMap f)) → Q (.ref D) H') : LcL K g tt te vs σ (.ref a) H Q := by
  refine ⟨a, rfl, ⟨xs, h1⟩, fun D hD => lc_list (xs := xs) (fun i H' => i ≤ xs.length ∧ Same H H' ∧ H' D = some (.lst ((xs.take i).filterMap f))) ⟨Nat.zero_le _, same_upd hD, upd_same⟩ (fun i H' _ q => q.2.1.seq h1) ?_ ?_⟩
  · rintro i x H1 hx ⟨hi, sH, eD⟩
    have hlt : i < xs.length := (List.getElem?_eq_some_iff.mp hx).1
    refine hs x (List.mem_of_getElem? hx) H1 sH (fun o H4 => match o with
      | some y => ∃ acc, H4 D = some (.lst acc) ∧ acc.length < sizeLine ∧ (i + 1 ≤ xs.length ∧ Same H (upd H4 D (.lst (acc ++ [y]))) ∧ (upd H4 D (.lst (acc ++ [y]))) D = some (.lst ((xs.take (i + 1)).filterMap f)))
      | none => i + 1 ≤ xs.length ∧ Same H H4 ∧ H4 D = some (.lst ((xs.take (i + 1)).filterMap f))) fun H2 s2 => ?_
    have tk := take_fm (f := f) hx
    cases e : f x with
    | none =>
      rw [e] at tk
      exact ⟨hlt, sH.trans s2, by rw [tk, List.append_nil]; exact s2 _ _ eD⟩
    | some y =>
      rw [e] at tk
      refine ⟨_, s2 _ _ eD, ?_, hlt, fun b o q => ?_, by rw [upd_same, tk]⟩
      · have l1 := fm_len (f := f) (xs.take i)
        rw [List.length_take] at l1
        exact Nat.lt_of_le_of_lt (by omega : _ ≤ 100000) (by decide)
      · rw [upd_ne (ne_of_none q hD)]
        exact s2 _ _ (sH _ _ q)
  · rintro H1 ⟨_, sH, eD⟩
    rw [List.take_length] at eD
    exact k D H1 ⟨hD⟩ sH eD
/-- over a range -/
def rngV (lo : Int) (n : Nat) : List V := (List.range n).map fun i => V.int (lo + (i : Nat))
theorem rngV_at {lo : Int} {n i : Nat} (h : i < n) : (rngV lo n)[i]? = some (V.int (lo + (i : Nat))) := by
  unfold rngV
  rw [List.getElem?_map, List.getElem?_range h]
  rfl
theorem rngV_len (lo : Int) (n : Nat) : (rngV lo n).length = n := by unfold rngV; rw [List.length_map, List.length_range]
theorem lcr_fun {lo : Int} {n : Nat} (f : V → Option V) (hz : n ≤ 100000)
    (hs : ∀ i : Nat, i < n → ∀ H1, Same H H1 → ∀ R : Option V → Hp → Prop, (∀ H2, Same H1 H2 → R (f (.int (lo + i))) H2) → LcT g tt te vs σ (.int (lo + i)) H1 R)
    (k : ∀ D H', Fr H D → Same H H' → H' D = some (.lst ((rngV lo n).filterMap f)) → Q (.ref D) H') : LcR lo n g tt te vs σ H Q := by
  refine fun D hD => lc_range (fun i H' => i ≤ n ∧ Same H H' ∧ H' D = some (.lst (((rngV lo n).take i).filterMap f))) ⟨Nat.zero_le _, same_upd hD, upd_same⟩ ?_ ?_
  · rintro i H1 hlt ⟨hi, sH, eD⟩
    have hx := rngV_at (lo := lo) hlt
    refine hs i hlt H1 sH (fun o H4 => match o with
      | some y => ∃ acc, H4 D = some (.lst acc) ∧ acc.length < sizeLine ∧ (i + 1 ≤ n ∧ Same H (upd H4 D (.lst (acc ++ [y]))) ∧ (upd H4 D (.lst (acc ++ [y]))) D = some (.lst (((rngV lo n).take (i + 1)).filterMap f)))
      | none => i + 1 ≤ n ∧ Same H H4 ∧ H4 D = some (.lst (((rngV lo n).take (i + 1)).filterMap f))) fun H2 s2 => ?_
    have tk := take_fm (f := f) hx
    cases e : f (V.int (lo + (i : Nat))) with
    | none =>
      rw [e] at tk
      exact ⟨hlt, sH.trans s2, by rw [tk, List.append_nil]; exact s2 _ _ eD⟩
    | some y =>
      rw [e] at tk
      refine ⟨_, s2 _ _ eD, ?_, hlt, fun b o q => ?_, by rw [upd_same, tk]⟩
      · have l1 := fm_len (f := f) ((rngV lo n).take i)
        rw [List.length_take, rngV_len] at l1
        exact Nat.lt_of_le_of_lt (by omega : _ ≤ 100000) (by decide)
      · rw [upd_ne (ne_of_none q hD)]
        exact s2 _ _ (sH _ _ q)
  · rintro H1 ⟨_, sH, eD⟩
    have e1 : (rngV lo n).take n = rngV lo n := List.take_of_length_le (Nat.le_of_eq (rngV_len lo n))
    rw [e1] at eD
    exact k D H1 ⟨hD⟩ sH eD
theorem lcr1_fun {j : Int} (f : V → Option V) (b1 : -(2 ^ 62) ≤ j) (hz : j ≤ 100000)
    (hs : ∀ i : Nat, (i : Int) < j → ∀ H1, Same H H1 → ∀ R : Option V → Hp → Prop, (∀ H2, Same H1 H2 → R (f (.int i)) H2) → LcT g tt te vs σ (.int i) H1 R)
    (k : ∀ D H', Fr H D → Same H H' → H' D = some (.lst ((rngV 0 j.toNat).filterMap f)) → Q (.ref D) H') : LcR1 g tt te vs σ [.int j] H Q :=
  ⟨j, rfl, b1, by omega, lcr_fun f (by omega) (fun i hi H1 s1 R => by rw [Int.zero_add]; exact hs i (by omega) H1 s1 R) k⟩
theorem lcr2_fun {i j : Int} (f : V → Option V) (b1 : -(2 ^ 62) ≤ i ∧ i < 2 ^ 62 ∧ -(2 ^ 62) ≤ j ∧ j < 2 ^ 62) (hz : j - i ≤ 100000)
    (hs : ∀ k : Nat, i + (k : Int) < j → ∀ H1, Same H H1 → ∀ R : Option V → Hp → Prop, (∀ H2, Same H1 H2 → R (f (.int (i + k))) H2) → LcT g tt te vs σ (.int (i + k)) H1 R)
    (k : ∀ D H', Fr H D → Same H H' → H' D = some (.lst ((rngV i (j - i).toNat).filterMap f)) → Q (.ref D) H') : LcR2 g tt te vs σ [.int i, .int j] H Q :=
  ⟨i, j, rfl, b1, lcr_fun f (by omega) (fun k hk H1 s1 R => hs k (by omega) H1 s1 R) k⟩
end
end L3

namespace L3
open PySem L2 PyProof.Rows
section
variable {H : Hp} {tt : TT} {te : TE} {R : Option V → Hp → Prop} {v : V} {a0 a1 a2 a3 a4 a5 a6 a7 a8 a9 a10 a11 a12 a13 a14 a15 a16 a17 a18 a19 a20 : Option V} {r : L2.St}
theorem lct_0 (h : tt (some v :: r) H fun b H3 => LcE R te b (some v :: r) H3) : LcT (gName 0) tt te [0] (a0 :: r) v H R := ⟨rfl, h⟩
theorem lct_1 (h : tt (a0 :: some v :: r) H fun b H3 => LcE R te b (a0 :: some v :: r) H3) : LcT (gName 1) tt te [1] (a0 :: a1 :: r) v H R := ⟨rfl, h⟩
theorem lct_2 (h : tt (a0 :: a1 :: some v :: r) H fun b H3 => LcE R te b (a0 :: a1 :: some v :: r) H3) : LcT (gName 2) tt te [2] (a0 :: a1 :: a2 :: r) v H R := ⟨rfl, h⟩
theorem lct_3 (h : tt (a0 :: a1 :: a2 :: some v :: r) H fun b H3 => LcE R te b (a0 :: a1 :: a2 :: some v :: r) H3) : LcT (gName 3) tt te [3] (a0 :: a1 :: a2 :: a3 :: r) v H R := ⟨rfl, h⟩
theorem lct_4 (h : tt (a0 :: a1 :: a2 :: a3 :: some v :: r) H fun b H3 => LcE R te b (a0 :: a1 :: a2 :: a3 :: some v :: r) H3) : LcT (gName 4) tt te [4] (a0 :: a1 :: a2 :: a3 :: a4 :: r) v H R := ⟨rfl, h⟩
theorem lct_5 (h : tt (a0 :: a1 :: a2 :: a3 :: a4 :: some v :: r) H fun b H3 => LcE R te b (a0 :: a1 :: a2 :: a3 :: a4 :: some v :: r) H3) : LcT (gName 5) tt te [5] (a0 :: a1 :: a2 :: a3 :: a4 :: a5 :: r) v H R := ⟨rfl, h⟩
theorem lct_6 (h : tt (a0 :: a1 :: a2 :: a3 :: a4 :: a5 :: some v :: r) H fun b H3 => LcE R te b (a0 :: a1 :: a2 :: a3 :: a4 :: a5 :: some v :: r) H3) : LcT (gName 6) tt te [6] (a0 :: a1 :: a2 :: a3 :: a4 :: a5 :: a6 :: r) v H R := ⟨rfl, h⟩
theorem lct_7 (h : tt (a0 :: a1 :: a2 :: a3 :: a4 :: a5 :: a6 :: some v :: r) H fun b H3 => LcE R te b (a0 :: a1 :: a2 :: a3 :: a4 :: a5 :: a6 :: some v :: r) H3) : LcT (gName 7) tt te [7] (a0 :: a1 :: a2 :: a3 :: a4 :: a5 :: a6 :: a7 :: r) v H R := ⟨rfl, h⟩
theorem lct_8 (h : tt (a0 :: a1 :: a2 :: a3 :: a4 :: a5 :: a6 :: a7 :: some v :: r) H fun b H3 => LcE R te b (a0 :: a1 :: a2 :: a3 :: a4 :: a5 :: a6 :: a7 :: some v :: r) H3) : LcT (gName 8) tt te [8] (a0 :: a1 :: a2 :: a3 :: a4 :: a5 :: a6 :: a7 :: a8 :: r) v H R := ⟨rfl, h⟩
theorem lct_9 (h : tt (a0 :: a1 :: a2 :: a3 :: a4 :: a5 :: a6 :: a7 :: a8 :: some v :: r) H fun b H3 => LcE R te b (a0 :: a1 :: a2 :: a3 :: a4 :: a5 :: a6 :: a7 :: a8 :: some v :: r) H3) : LcT (gName 9) tt te [9] (a0 :: a1 :: a2 :: a3 :: a4 :: a5 :: a6 :: a7 :: a8 :: a9 :: r) v H R := ⟨rfl, h⟩
theorem lct_10 (h : tt (a0 :: a1 :: a2 :: a3 :: a4 :: a5 :: a6 :: a7 :: a8 :: a9 :: some v :: r) H fun b H3 => LcE R te b (a0 :: a1 :: a2 :: a3 :: a4 :: a5 :: a6 :: a7 :: a8 :: a9 :: some v :: r) H3) : LcT (gName 10) tt te [10] (a0 :: a1 :: a2 :: a3 :: a4 :: a5 :: a6 :: a7 :: a8 :: a9 :: a10 :: r) v H R := ⟨rfl, h⟩
theorem lct_11 (h : tt (a0 :: a1 :: a2 :: a3 :: a4 :: a5 :: a6 :: a7 :: a8 :: a9 :: a10 :: some v :: r) H fun b H3 => LcE R te b (a0 :: a1 :: a2 :: a3 :: a4 :: a5 :: a6 :: a7 :: a8 :: a9 :: a10 :: some v :: r) H3) : LcT (gName 11) tt te [11] (a0 :: a1 :: a2 :: a3 :: a4 :: a5 :: a6 :: a7 :: a8 :: a9 :: a10 :: a11 :: r) v H R := ⟨rfl, h⟩
theorem lct_12 (h : tt (a0 :: a1 :: a2 :: a3 :: a4 :: a5 :: a6 :: a7 :: a8 :: a9 :: a10 :: a11 :: some v :: r) H fun b H3 => LcE R te b (a0 :: a1 :: a2 :: a3 :: a4 :: a5 :: a6 :: a7 :: a8 :: a9 :: a10 :: a11 :: some v :: r) H3) : LcT (gName 12) tt te [12] (a0 :: a1 :: a2 :: a3 :: a4 :: a5 :: a6 :: a7 :: a8 :: a9 :: a10 :: a11 :: a12 :: r) v H R := ⟨rfl, h⟩
theorem lct_13 (h : tt (a0 :: a1 :: a2 :: a3 :: a4 :: a5 :: a6 :: a7 :: a8 :: a9 :: a10 :: a11 :: a12 :: some v :: r) H fun b H3 => LcE R te b (a0 :: a1 :: a2 :: a3 :: a4 :: a5 :: a6 :: a7 :: a8 :: a9 :: a10 :: a11 :: a12 :: some v :: r) H3) : LcT (gName 13) tt te [13] (a0 :: a1 :: a2 :: a3 :: a4 :: a5 :: a6 :: a7 :: a8 :: a9 :: a10 :: a11 :: a12 :: a13 :: r) v H R := ⟨rfl, h⟩
theorem lct_14 (h : tt (a0 :: a1 :: a2 :: a3 :: a4 :: a5 :: a6 :: a7 :: a8 :: a9 :: a10 :: a11 :: a12 :: a13 :: some v :: r) H fun b H3 => LcE R te b (a0 :: a1 :: a2 :: a3 :: a4 :: a5 :: a6 :: a7 :: a8 :: a9 :: a10 :: a11 :: a12 :: a13 :: some v :: r) H3) : LcT (gName 14) tt te [14] (a0 :: a1 :: a2 :: a3 :: a4 :: a5 :: a6 :: a7 :: a8 :: a9 :: a10 :: a11 :: a12 :: a13 :: a14 :: r) v H R := ⟨rfl, h⟩
theorem lct_15 (h : tt (a0 :: a1 :: a2 :: a3 :: a4 :: a5 :: a6 :: a7 :: a8 :: a9 :: a10 :: a11 :: a12 :: a13 :: a14 :: some v :: r) H fun b H3 => LcE R te b (a0 :: a1 :: a2 :: a3 :: a4 :: a5 :: a6 :: a7 :: a8 :: a9 :: a10 :: a11 :: a12 :: a13 :: a14 :: some v :: r) H3) : LcT (gName 15) tt te [15] (a0 :: a1 :: a2 :: a3 :: a4 :: a5 :: a6 :: a7 :: a8 :: a9 :: a10 :: a11 :: a12 :: a13 :: a14 :: a15 :: r) v H R := ⟨rfl, h⟩
theorem lct_16 (h : tt (a0 :: a1 :: a2 :: a3 :: a4 :: a5 :: a6 :: a7 :: a8 :: a9 :: a10 :: a11 :: a12 :: a13 :: a14 :: a15 :: some v :: r) H fun b H3 => LcE R te b (a0 :: a1 :: a2 :: a3 :: a4 :: a5 :: a6 :: a7 :: a8 :: a9 :: a10 :: a11 :: a12 :: a13 :: a14 :: a15 :: some v :: r) H3) : LcT (gName 16) tt te [16] (a0 :: a1 :: a2 :: a3 :: a4 :: a5 :: a6 :: a7 :: a8 :: a9 :: a10 :: a11 :: a12 :: a13 :: a14 :: a15 :: a16 :: r) v H R := ⟨rfl, h⟩
theorem lct_17 (h : tt (a0 :: a1 :: a2 :: a3 :: a4 :: a5 :: a6 :: a7 :: a8 :: a9 :: a10 :: a11 :: a12 :: a13 :: a14 :: a15 :: a16 :: some v :: r) H fun b H3 => LcE R te b (a0 :: a1 :: a2 :: a3 :: a4 :: a5 :: a6 :: a7 :: a8 :: a9 :: a10 :: a11 :: a12 :: a13 :: a14 :: a15 :: a16 :: some v :: r) H3) : LcT (gName 17) tt te [17] (a0 :: a1 :: a2 :: a3 :: a4 :: a5 :: a6 :: a7 :: a8 :: a9 :: a10 :: a11 :: a12 :: a13 :: a14 :: a15 :: a16 :: a17 :: r) v H R := ⟨rfl, h⟩
theorem lct_18 (h : tt (a0 :: a1 :: a2 :: a3 :: a4 :: a5 :: a6 :: a7 :: a8 :: a9 :: a10 :: a11 :: a12 :: a13 :: a14 :: a15 :: a16 :: a17 :: some v :: r) H fun b H3 => LcE R te b (a0 :: a1 :: a2 :: a3 :: a4 :: a5 :: a6 :: a7 :: a8 :: a9 :: a10 :: a11 :: a12 :: a13 :: a14 :: a15 :: a16 :: a17 :: some v :: r) H3) : LcT (gName 18) tt te [18] (a0 :: a1 :: a2 :: a3 :: a4 :: a5 :: a6 :: a7 :: a8 :: a9 :: a10 :: a11 :: a12 :: a13 :: a14 :: a15 :: a16 :: a17 :: a18 :: r) v H R := ⟨rfl, h⟩
theorem lct_19 (h : tt (a0 :: a1 :: a2 :: a3 :: a4 :: a5 :: a6 :: a7 :: a8 :: a9 :: a10 :: a11 :: a12 :: a13 :: a14 :: a15 :: a16 :: a17 :: a18 :: some v :: r) H fun b H3 => LcE R te b (a0 :: a1 :: a2 :: a3 :: a4 :: a5 :: a6 :: a7 :: a8 :: a9 :: a10 :: a11 :: a12 :: a13 :: a14 :: a15 :: a16 :: a17 :: a18 :: some v :: r) H3) : LcT (gName 19) tt te [19] (a0 :: a1 :: a2 :: a3 :: a4 :: a5 :: a6 :: a7 :: a8 :: a9 :: a10 :: a11 :: a12 :: a13 :: a14 :: a15 :: a16 :: a17 :: a18 :: a19 :: r) v H R := ⟨rfl, h⟩
theorem lct_20 (h : tt (a0 :: a1 :: a2 :: a3 :: a4 :: a5 :: a6 :: a7 :: a8 :: a9 :: a10 :: a11 :: a12 :: a13 :: a14 :: a15 :: a16 :: a17 :: a18 :: a19 :: some v :: r) H fun b H3 => LcE R te b (a0 :: a1 :: a2 :: a3 :: a4 :: a5 :: a6 :: a7 :: a8 :: a9 :: a10 :: a11 :: a12 :: a13 :: a14 :: a15 :: a16 :: a17 :: a18 :: a19 :: some v :: r) H3) : LcT (gName 20) tt te [20] (a0 :: a1 :: a2 :: a3 :: a4 :: a5 :: a6 :: a7 :: a8 :: a9 :: a10 :: a11 :: a12 :: a13 :: a14 :: a15 :: a16 :: a17 :: a18 :: a19 :: a20 :: r) v H R := ⟨rfl, h⟩
end
end L3

namespace L3
open PySem L2 PyProof.Rows
section
variable {σ : L2.St} {H : Hp} {nx bk ct : L2.St → Hp → Prop} {rt : VK} {ta : TA} {i j l : Nat} {u v w : V}
def Par2 (i j : Nat) (vs : List V) (σ : L2.St) (H : Hp) (nx : L2.St → Hp → Prop) : Prop := ∃ v w, vs = [v, w] ∧ nx ((σ.set i (some v)).set j (some w)) H
def Par3 (i j l : Nat) (vs : List V) (σ : L2.St) (H : Hp) (nx : L2.St → Hp → Prop) : Prop := ∃ u v w, vs = [u, v, w] ∧ nx (((σ.set i (some u)).set j (some v)).set l (some w)) H
theorem g_par (h : ta σ H fun vs H1 => Par2 i j vs σ H1 nx) : tPar i j ta ⟨nx, rt, bk, ct⟩ σ H := h
theorem g_par3 (h : ta σ H fun vs H1 => Par3 i j l vs σ H1 nx) : tPar3 i j l ta ⟨nx, rt, bk, ct⟩ σ H := h
theorem par2 (h : gName i v σ H fun σ1 H1 => gName j w σ1 H1 nx) : Par2 i j [v, w] σ H nx := ⟨v, w, rfl, h⟩
theorem par3 (h : gName i u σ H fun σ1 H1 => gName j v σ1 H1 fun σ2 H2 => gName l w σ2 H2 nx) : Par3 i j l [u, v, w] σ H nx := ⟨u, v, w, rfl, h⟩
end
end L3

/-! ### the rules that name the written part, with it as a letter (a comprehension's block has another context, but the same K) -/
namespace L3
open PySem L2 PyProof.Rows
section
variable {X : Cx} {K : PySem.W.Frag} {e o a b : Expr} {es : List Expr} {ta tb te to tl : TE} {t : TA} {f : Str} {pos pos' apos cpos : Pos} {tg : Expr} {ts : TGs} {n k : Nat}
theorem ptTK (hK : X.K = K) (ha : PE X a ta) (he : ∀ whole, isTrue a X.env whole = (do let v ← whole; standAt a.pos; holding [v] (truthy v))) : PT X a (tTr K ta) := by subst hK; exact ptT ha he
theorem pe_fldK (hK : X.K = K) (he : PE X e ta) (hb : attributeBase e f X.env (eval e X.env) = eval e X.env) : PE X (.Attribute e f pos) (tFld K ta f) := by subst hK; exact pe_fld he hb
theorem ps_fldK (hK : X.K = K) (ha : PE X o ta) {value : Expr} {tv : TE} (hv : PE X value tv) (hs : swapsWith value (some (.Attribute o f pos')) pos.line X.env = pure false) : PS X (.Assign [.Attribute o f pos'] value pos) (sFld K ta tv f) := by subst hK; exact ps_fld ha hv hs
theorem c_lenK (hK : X.K = K) : CallR X (.builtin "len") (rLen K) := by subst hK; exact c_len
theorem c_listK (hK : X.K = K) : CallR X (.type "list") (rListOf K) := by subst hK; exact c_list
theorem c_isiK (hK : X.K = K) : CallR X (.builtin "isinstance") (rIsi K) := by subst hK; exact call_isi
theorem c_sumK (hK : X.K = K) (hc : X.calm = true) : CallR X (.builtin "sum") (rSum K) := by subst hK; exact cr_sum hc
theorem c_max1K (hK : X.K = K) (hc : X.calm = true) : CallR X (.builtin "max") (rMax K) := by subst hK; exact cr_max hc
theorem c_min1K (hK : X.K = K) (hc : X.calm = true) : CallR X (.builtin "min") (rMin K) := by subst hK; exact cr_min hc
theorem c_allK (hK : X.K = K) (hc : X.calm = true) : CallR X (.builtin "all") (rAll K) := by subst hK; exact cr_all hc
theorem c_anyK (hK : X.K = K) (hc : X.calm = true) : CallR X (.builtin "any") (rAny K) := by subst hK; exact cr_any hc
theorem c_sortedK (hK : X.K = K) : CallR X (.builtin "sorted") (rSortedI K) := by subst hK; exact cr_sortedI
theorem ix_seqK (hK : X.K = K) : IxR X (rIx K) := by subst hK; exact ix_seq
theorem op_addK (hK : X.K = K) : OpR X (binaryOp .Add) (rOr rAddI (rOr rCat (rOr rAddS (rCatT K)))) := by subst hK; exact op_addU
theorem op_eqK (hK : X.K = K) (hu : X.A.units + 64 < cLine) : OpR X (compareOp .Eq) (rOr rEq (rEqD K)) := by subst hK; exact op_eqU hu
theorem op_neK (hK : X.K = K) (hu : X.A.units + 64 < cLine) : OpR X (compareOp .NotEq) (rOr rNe (rNeD K)) := by subst hK; exact op_neU hu
theorem op_inK (hK : X.K = K) : OpR X (compareOp .In) (rIn K false) := by subst hK; exact op_in_seq
theorem op_ninK (hK : X.K = K) : OpR X (compareOp .NotIn) (rIn K true) := by subst hK; exact op_notIn_seq
theorem pi_listK (hK : X.K = K) {l : Expr} (hl : PE X l tl) : PI X tg l (iList K tl) := by subst hK; exact pi_list hl
theorem pi_tupK (hK : X.K = K) {l : Expr} (hl : PE X l tl) : PI X tg l (iTup K tl) := by subst hK; exact pi_tup hl
theorem pg_tlK (hK : X.K = K) (hc : X.calm = true) (h : PGs X es ts)
    (hn : (assignEach es X.env).length = n := by rfl) (hst : (assignEach es X.env).findIdx? (·.1) = none := by rfl) : PG X (.Tuple es k pos) (gOr (gTup K n ts) (gLst K n ts)) := by subst hK; exact pg_or (pg_tup hc h hn hst) (pg_lst hc h hn hst)
theorem sl_listK (hK : X.K = K) : SlR X (rSlL K) := by subst hK; exact sl_list
theorem sl_tupK (hK : X.K = K) : SlR X (rSlT K) := by subst hK; exact sl_tup
theorem pe_notTK (hK : X.K = K) (ha : PE X a ta) : PE X (.UnaryOp .Not a pos) (tNotT K ta) := by subst hK; exact pe_notT ha
theorem pe_bm0K {T id : String} {name : Str} {r : V → List V → Hp → VK → Prop} (hK : X.K = K) (pa : PlainAttrs T) (slot : Slot T name id) (hty : typeOf (.builtin id) = pure (.type "method_descriptor")) (hm : MtR X id r) (ho : PE X o to)
    (hbase : attributeBase o name X.env (eval o X.env) = eval o X.env := by rfl) (hline : (apos.endLine == cpos.line) = true := by rfl) : PE X (.Call (.Attribute o name apos) [] [] cpos) (tBM0 K T r to) := by subst hK; exact pe_bm0 pa slot hty hm ho hbase hline
theorem pe_bmK {T id : String} {name : Str} {r : V → List V → Hp → VK → Prop} (hK : X.K = K) (pa : PlainAttrs T) (slot : Slot T name id) (hty : typeOf (.builtin id) = pure (.type "method_descriptor")) (hm : MtR X id r) (ho : PE X o to) (ha : PA X (e :: es) t)
    (hbase : attributeBase o name X.env (eval o X.env) = eval o X.env := by rfl)
    (hfew : ((backTo cpos (starEach (e :: es) X.env)).all (fun x => !x.1) && (backToKw cpos (keywordEach [] X.env)).all (fun x => x.1.isSome)
      && decide ((e :: es).length + ([] : List Keyword).length + (if ([] : List Keyword).isEmpty then 0 else 1) < 30)) = true := by rfl)
    (hline : (apos.endLine == cpos.line) = true := by rfl) (hs : starEach (e :: es) X.env = (false, eval e X.env) :: starEach es X.env := by rfl) (hplain : (backTo cpos (starEach es X.env)).any (·.1) = false := by rfl) :
    PE X (.Call (.Attribute o name apos) (e :: es) [] cpos) (tBM K T r to t) := by subst hK; exact pe_bm pa slot hty hm ho ha hbase hfew hline hs hplain
end
end L3

/-! ### loops that keep all but some slots, and only make objects -/
namespace L3
open PySem L2 PyProof.Rows
section
variable {K : PySem.W.Frag} {a : Addr} {σ : L2.St} {H : Hp} {xs : List V} {g : TG} {tb : TS} {nx bk ct : L2.St → Hp → Prop} {rt : VK}
theorem f_each1 (i0 : Nat) (h1 : H a = some (.lst xs)) (h0 : ∃ (v0 : Option V), σ = (σ.set i0 v0))
    (hs : ∀ x ∈ xs, ∀ (v0 : Option V) (H' : Hp), Same H H' → g x (σ.set i0 v0) H' fun σ2 H2 => tb ⟨fun σ3 H3 => (∃ (v0 : Option V), σ3 = (σ.set i0 v0)) ∧ Same H H3, rt, nx, fun σ3 H3 => (∃ (v0 : Option V), σ3 = (σ.set i0 v0)) ∧ Same H H3⟩ σ2 H2)
    (hd : ∀ (v0 : Option V) (H' : Hp), Same H H' → nx (σ.set i0 v0) H') : ForL K g tb ⟨nx, rt, bk, ct⟩ σ (.ref a) H := by
  refine f_list (fun _ σ3 H3 => (∃ (v0 : Option V), σ3 = (σ.set i0 v0)) ∧ Same H H3) (SqL.of h1) ⟨h0, Same.refl _⟩ (fun i σ' H' _ q => SqL.of (q.2 _ _ h1)) ?_ ?_
  · rintro i x σ' H' hx ⟨⟨v0, rfl⟩, s⟩
    exact hs x (List.mem_of_getElem? hx) v0 H' s
  · rintro σ' H' ⟨⟨v0, rfl⟩, s⟩
    exact hd v0 H' s
theorem f_each2 (i0 i1 : Nat) (h1 : H a = some (.lst xs)) (h0 : ∃ (v0 : Option V) (v1 : Option V), σ = ((σ.set i0 v0).set i1 v1))
    (hs : ∀ x ∈ xs, ∀ (v0 : Option V) (v1 : Option V) (H' : Hp), Same H H' → g x ((σ.set i0 v0).set i1 v1) H' fun σ2 H2 => tb ⟨fun σ3 H3 => (∃ (v0 : Option V) (v1 : Option V), σ3 = ((σ.set i0 v0).set i1 v1)) ∧ Same H H3, rt, nx, fun σ3 H3 => (∃ (v0 : Option V) (v1 : Option V), σ3 = ((σ.set i0 v0).set i1 v1)) ∧ Same H H3⟩ σ2 H2)
    (hd : ∀ (v0 : Option V) (v1 : Option V) (H' : Hp), Same H H' → nx ((σ.set i0 v0).set i1 v1) H') : ForL K g tb ⟨nx, rt, bk, ct⟩ σ (.ref a) H := by
  refine f_list (fun _ σ3 H3 => (∃ (v0 : Option V) (v1 : Option V), σ3 = ((σ.set i0 v0).set i1 v1)) ∧ Same H H3) (SqL.of h1) ⟨h0, Same.refl _⟩ (fun i σ' H' _ q => SqL.of (q.2 _ _ h1)) ?_ ?_
  · rintro i x σ' H' hx ⟨⟨v0, v1, rfl⟩, s⟩
    exact hs x (List.mem_of_getElem? hx) v0 v1 H' s
  · rintro σ' H' ⟨⟨v0, v1, rfl⟩, s⟩
    exact hd v0 v1 H' s
theorem f_each3 (i0 i1 i2 : Nat) (h1 : H a = some (.lst xs)) (h0 : ∃ (v0 : Option V) (v1 : Option V) (v2 : Option V), σ = (((σ.set i0 v0).set i1 v1).set i2 v2))
    (hs : ∀ x ∈ xs, ∀ (v0 : Option V) (v1 : Option V) (v2 : Option V) (H' : Hp), Same H H' → g x (((σ.set i0 v0).set i1 v1).set i2 v2) H' fun σ2 H2 => tb ⟨fun σ3 H3 => (∃ (v0 : Option V) (v1 : Option V) (v2 : Option V), σ3 = (((σ.set i0 v0).set i1 v1).set i2 v2)) ∧ Same H H3, rt, nx, fun σ3 H3 => (∃ (v0 : Option V) (v1 : Option V) (v2 : Option V), σ3 = (((σ.set i0 v0).set i1 v1).set i2 v2)) ∧ Same H H3⟩ σ2 H2)
    (hd : ∀ (v0 : Option V) (v1 : Option V) (v2 : Option V) (H' : Hp), Same H H' → nx (((σ.set i0 v0).set i1 v1).set i2 v2) H') : ForL K g tb ⟨nx, rt, bk, ct⟩ σ (.ref a) H := by
  refine f_list (fun _ σ3 H3 => (∃ (v0 : Option V) (v1 : Option V) (v2 : Option V), σ3 = (((σ.set i0 v0).set i1 v1).set i2 v2)) ∧ Same H H3) (SqL.of h1) ⟨h0, Same.refl _⟩ (fun i σ' H' _ q => SqL.of (q.2 _ _ h1)) ?_ ?_
  · rintro i x σ' H' hx ⟨⟨v0, v1, v2, rfl⟩, s⟩
    exact hs x (List.mem_of_getElem? hx) v0 v1 v2 H' s
  · rintro σ' H' ⟨⟨v0, v1, v2, rfl⟩, s⟩
    exact hd v0 v1 v2 H' s
theorem f_each4 (i0 i1 i2 i3 : Nat) (h1 : H a = some (.lst xs)) (h0 : ∃ (v0 : Option V) (v1 : Option V) (v2 : Option V) (v3 : Option V), σ = ((((σ.set i0 v0).set i1 v1).set i2 v2).set i3 v3))
    (hs : ∀ x ∈ xs, ∀ (v0 : Option V) (v1 : Option V) (v2 : Option V) (v3 : Option V) (H' : Hp), Same H H' → g x ((((σ.set i0 v0).set i1 v1).set i2 v2).set i3 v3) H' fun σ2 H2 => tb ⟨fun σ3 H3 => (∃ (v0 : Option V) (v1 : Option V) (v2 : Option V) (v3 : Option V), σ3 = ((((σ.set i0 v0).set i1 v1).set i2 v2).set i3 v3)) ∧ Same H H3, rt, nx, fun σ3 H3 => (∃ (v0 : Option V) (v1 : Option V) (v2 : Option V) (v3 : Option V), σ3 = ((((σ.set i0 v0).set i1 v1).set i2 v2).set i3 v3)) ∧ Same H H3⟩ σ2 H2)
    (hd : ∀ (v0 : Option V) (v1 : Option V) (v2 : Option V) (v3 : Option V) (H' : Hp), Same H H' → nx ((((σ.set i0 v0).set i1 v1).set i2 v2).set i3 v3) H') : ForL K g tb ⟨nx, rt, bk, ct⟩ σ (.ref a) H := by
  refine f_list (fun _ σ3 H3 => (∃ (v0 : Option V) (v1 : Option V) (v2 : Option V) (v3 : Option V), σ3 = ((((σ.set i0 v0).set i1 v1).set i2 v2).set i3 v3)) ∧ Same H H3) (SqL.of h1) ⟨h0, Same.refl _⟩ (fun i σ' H' _ q => SqL.of (q.2 _ _ h1)) ?_ ?_
  · rintro i x σ' H' hx ⟨⟨v0, v1, v2, v3, rfl⟩, s⟩
    exact hs x (List.mem_of_getElem? hx) v0 v1 v2 v3 H' s
  · rintro σ' H' ⟨⟨v0, v1, v2, v3, rfl⟩, s⟩
    exact hd v0 v1 v2 v3 H' s
theorem f_each5 (i0 i1 i2 i3 i4 : Nat) (h1 : H a = some (.lst xs)) (h0 : ∃ (v0 : Option V) (v1 : Option V) (v2 : Option V) (v3 : Option V) (v4 : Option V), σ = (((((σ.set i0 v0).set i1 v1).set i2 v2).set i3 v3).set i4 v4))
    (hs : ∀ x ∈ xs, ∀ (v0 : Option V) (v1 : Option V) (v2 : Option V) (v3 : Option V) (v4 : Option V) (H' : Hp), Same H H' → g x (((((σ.set i0 v0).set i1 v1).set i2 v2).set i3 v3).set i4 v4) H' fun σ2 H2 => tb ⟨fun σ3 H3 => (∃ (v0 : Option V) (v1 : Option V) (v2 : Option V) (v3 : Option V) (v4 : Option V), σ3 = (((((σ.set i0 v0).set i1 v1).set i2 v2).set i3 v3).set i4 v4)) ∧ Same H H3, rt, nx, fun σ3 H3 => (∃ (v0 : Option V) (v1 : Option V) (v2 : Option V) (v3 : Option V) (v4 : Option V), σ3 = (((((σ.set i0 v0).set i1 v1).set i2 v2).set i3 v3).set i4 v4)) ∧ Same H H3⟩ σ2 H2)
    (hd : ∀ (v0 : Option V) (v1 : Option V) (v2 : Option V) (v3 : Option V) (v4 : Option V) (H' : Hp), Same H H' → nx (((((σ.set i0 v0).set i1 v1).set i2 v2).set i3 v3).set i4 v4) H') : ForL K g tb ⟨nx, rt, bk, ct⟩ σ (.ref a) H := by
  refine f_list (fun _ σ3 H3 => (∃ (v0 : Option V) (v1 : Option V) (v2 : Option V) (v3 : Option V) (v4 : Option V), σ3 = (((((σ.set i0 v0).set i1 v1).set i2 v2).set i3 v3).set i4 v4)) ∧ Same H H3) (SqL.of h1) ⟨h0, Same.refl _⟩ (fun i σ' H' _ q => SqL.of (q.2 _ _ h1)) ?_ ?_
  · rintro i x σ' H' hx ⟨⟨v0, v1, v2, v3, v4, rfl⟩, s⟩
    exact hs x (List.mem_of_getElem? hx) v0 v1 v2 v3 v4 H' s
  · rintro σ' H' ⟨⟨v0, v1, v2, v3, v4, rfl⟩, s⟩
    exact hd v0 v1 v2 v3 v4 H' s
theorem f_each6 (i0 i1 i2 i3 i4 i5 : Nat) (h1 : H a = some (.lst xs)) (h0 : ∃ (v0 : Option V) (v1 : Option V) (v2 : Option V) (v3 : Option V) (v4 : Option V) (v5 : Option V), σ = ((((((σ.set i0 v0).set i1 v1).set i2 v2).set i3 v3).set i4 v4).set i5 v5))
    (hs : ∀ x ∈ xs, ∀ (v0 : Option V) (v1 : Option V) (v2 : Option V) (v3 : Option V) (v4 : Option V) (v5 : Option V) (H' : Hp), Same H H' → g x ((((((σ.set i0 v0).set i1 v1).set i2 v2).set i3 v3).set i4 v4).set i5 v5) H' fun σ2 H2 => tb ⟨fun σ3 H3 => (∃ (v0 : Option V) (v1 : Option V) (v2 : Option V) (v3 : Option V) (v4 : Option V) (v5 : Option V), σ3 = ((((((σ.set i0 v0).set i1 v1).set i2 v2).set i3 v3).set i4 v4).set i5 v5)) ∧ Same H H3, rt, nx, fun σ3 H3 => (∃ (v0 : Option V) (v1 : Option V) (v2 : Option V) (v3 : Option V) (v4 : Option V) (v5 : Option V), σ3 = ((((((σ.set i0 v0).set i1 v1).set i2 v2).set i3 v3).set i4 v4).set i5 v5)) ∧ Same H H3⟩ σ2 H2)
    (hd : ∀ (v0 : Option V) (v1 : Option V) (v2 : Option V) (v3 : Option V) (v4 : Option V) (v5 : Option V) (H' : Hp), Same H H' → nx ((((((σ.set i0 v0).set i1 v1).set i2 v2).set i3 v3).set i4 v4).set i5 v5) H') : ForL K g tb ⟨nx, rt, bk, ct⟩ σ (.ref a) H := by
  refine f_list (fun _ σ3 H3 => (∃ (v0 : Option V) (v1 : Option V) (v2 : Option V) (v3 : Option V) (v4 : Option V) (v5 : Option V), σ3 = ((((((σ.set i0 v0).set i1 v1).set i2 v2).set i3 v3).set i4 v4).set i5 v5)) ∧ Same H H3) (SqL.of h1) ⟨h0, Same.refl _⟩ (fun i σ' H' _ q => SqL.of (q.2 _ _ h1)) ?_ ?_
  · rintro i x σ' H' hx ⟨⟨v0, v1, v2, v3, v4, v5, rfl⟩, s⟩
    exact hs x (List.mem_of_getElem? hx) v0 v1 v2 v3 v4 v5 H' s
  · rintro σ' H' ⟨⟨v0, v1, v2, v3, v4, v5, rfl⟩, s⟩
    exact hd v0 v1 v2 v3 v4 v5 H' s

end
section
variable {K : PySem.W.Frag} {a : Addr} {σ : L2.St} {H : Hp} {Q : VK} {ta tb : TE} {P : Prop} {dP : Decidable P}
/-- a choice of which only F is known -/
theorem ife_val {F : V → Prop} (h1 : P → ∃ v, F v ∧ ∀ Q : VK, Q v H → ta σ H Q) (h2 : ¬ P → ∃ v, F v ∧ ∀ Q : VK, Q v H → tb σ H Q) (k : ∀ v, F v → Q v H) : IfER (decide P) ta tb σ H Q := by
  by_cases h : P
  · obtain ⟨v, f, e⟩ := h1 h
    exact ife_y h (e _ (k v f))
  · obtain ⟨v, f, e⟩ := h2 h
    exact ife_n h (e _ (k v f))
theorem ix_int {ns : List Int} {z : Int} (h1 : SqL K H a (ns.map V.int)) (h0 : 0 ≤ z) (hz : z < ns.length) : ∃ c : Int, ∀ Q : VK, Q (.int c) H → rIx K (.ref a) (.int z) H Q := by
  have hlt : z.toNat < ns.length := by omega
  exact ⟨ns[z.toNat], fun Q q => ix_sq h1 (at_of (j := z.toNat) (by omega) (by simp [hlt])) q⟩
end
end L3

/-! ### a condition told by its contrary -/
namespace L3
open PySem L2 PyProof.Rows
section
variable {σ : L2.St} {H : Hp} {Q : VK} {d : TT} {ta tb te : TE} {P : Prop} {dP : Decidable P} {R : Option V → Hp → Prop}
theorem and_ny {Q : Bool → Hp → Prop} (e : P) (h : Q false H) : AndR (!decide P) d σ H Q := by rw [decide_eq_true e]; exact h
theorem and_nn {Q : Bool → Hp → Prop} (e : ¬ P) (h : d σ H Q) : AndR (!decide P) d σ H Q := by rw [decide_eq_false e]; exact h
theorem or_ny {Q : Bool → Hp → Prop} (e : P) (h : d σ H Q) : OrR (!decide P) d σ H Q := by rw [decide_eq_true e]; exact h
theorem or_nn {Q : Bool → Hp → Prop} (e : ¬ P) (h : Q true H) : OrR (!decide P) d σ H Q := by rw [decide_eq_false e]; exact h
theorem not_ny {Q : Bool → Hp → Prop} (e : P) (h : Q true H) : NotR (!decide P) H Q := by rw [decide_eq_true e]; exact h
theorem not_nn {Q : Bool → Hp → Prop} (e : ¬ P) (h : Q false H) : NotR (!decide P) H Q := by rw [decide_eq_false e]; exact h
theorem andv_ny (e : P) (h : Q (.bl false) H) : AndVR (.bl (!decide P)) tb σ H Q := by rw [decide_eq_true e]; exact andv_F h
theorem andv_nn (e : ¬ P) (h : tb σ H Q) : AndVR (.bl (!decide P)) tb σ H Q := by rw [decide_eq_false e]; exact andv_T h
theorem orv_ny (e : P) (h : tb σ H Q) : OrVR (.bl (!decide P)) tb σ H Q := by rw [decide_eq_true e]; exact orv_F h
theorem orv_nn (e : ¬ P) (h : Q (.bl true) H) : OrVR (.bl (!decide P)) tb σ H Q := by rw [decide_eq_false e]; exact orv_T h
theorem ife_ny (e : P) (h : tb σ H Q) : IfER (!decide P) ta tb σ H Q := by rw [decide_eq_true e]; exact h
theorem ife_nn (e : ¬ P) (h : ta σ H Q) : IfER (!decide P) ta tb σ H Q := by rw [decide_eq_false e]; exact h
theorem lce_ny (e : P) (h : R none H) : LcE R te (!decide P) σ H := by rw [decide_eq_true e]; exact h
theorem lce_nn (e : ¬ P) (h : te σ H fun y H4 => R (some y) H4) : LcE R te (!decide P) σ H := by rw [decide_eq_false e]; exact h
end
end L3

set_option Elab.async false
set_option linter.all false
set_option maxRecDepth 100000
set_option maxHeartbeats 2000000
/-! Operators that an own class defines: their rules over the layer. -/
namespace L3
open PySem PySem.Calls PyProof.Rows PySem.W
section
variable {prog : Program} {w : World} {M : Model} {A : Around} {E : Value → Shared → Prop} {s : Shared} {K : PySem.W.Frag} {x y C f : Addr} {h₀ : Heap} {ox oy : Obj} {od od' : Option Obj} {v : Value} {m : PySem.Str → Option Value} {L : Addr}
theorem own_has {Q : Bool → Shared → Prop} (X : K.In s.heap) (I : InstAt s.heap x ox C od) (hs : findIn K (.ref C) "__contains__" = some (some (.ref f))) (hf : isFn K (.ref f) = true)
    (h : wpAny M A (call (.ref f) [.ref x, v]) (fun r s' => ∃ b, r = .bool b ∧ Q b s') E s) : wpAny M A (contains (.ref x) v) Q E s := by
  have one := h
  obtain ⟨hh, g, d, tt, os⟩ := s
  have l1 : Looks M hh (typeOf (.ref x)) (.ref C) := I.type
  have l2 : Looks M hh (typeLookup (.ref C) "__contains__") (some (.ref f)) := looks_findIn X hs
  have l3 : Looks M hh (bindSpecial (.ref f) (.ref x)) (.ref f, [.ref x]) := bind_fn X _ (beq_iff_eq.mp hf)
  unfold contains
  refine wpAny_holding ?_
  have e0 : stdlibNamesSay? (.ref x) v = none := by cases v <;> rfl
  rw [e0]
  unfold callSpecialUnlessNone? specialOf
  repeat ((fail_if_success (with_reducible show wpAny _ _ (call _ _) _ _ _)); lk)
  refine wpAny_mono one (fun r s' z => ?_) fun _ _ e => e
  obtain ⟨b, e, q⟩ := z
  subst e
  lk
  lk
  exact wpAny_truthy_bool q
theorem own_in {Q : Value → Shared → Prop} (X : K.In s.heap) (I : InstAt s.heap x ox C od) (hs : findIn K (.ref C) "__contains__" = some (some (.ref f))) (hf : isFn K (.ref f) = true)
    (h : wpAny M A (call (.ref f) [.ref x, v]) (fun r s' => ∃ b, r = .bool b ∧ Q (.bool b) s') E s) : wpAny M A (compareOp .In v (.ref x)) Q E s := by
  show wpAny M A (contains (.ref x) v >>= fun b => pure (.bool b)) Q E _
  exact wpAny_bind (own_has X I hs hf (wpAny_mono h (fun r s' ⟨b, e, q⟩ => ⟨b, e, wpAny_pure q⟩) fun _ _ e => e))
theorem own_nin {Q : Value → Shared → Prop} (X : K.In s.heap) (I : InstAt s.heap x ox C od) (hs : findIn K (.ref C) "__contains__" = some (some (.ref f))) (hf : isFn K (.ref f) = true)
    (h : wpAny M A (call (.ref f) [.ref x, v]) (fun r s' => ∃ b, r = .bool b ∧ Q (.bool (!b)) s') E s) : wpAny M A (compareOp .NotIn v (.ref x)) Q E s := by
  show wpAny M A (contains (.ref x) v >>= fun b => pure (.bool (!b))) Q E _
  exact wpAny_bind (own_has X I hs hf (wpAny_mono h (fun r s' ⟨b, e, q⟩ => ⟨b, e, wpAny_pure q⟩) fun _ _ e => e))
/-- two instances of one class -/
theorem own_bin {op : Operator} {Q : Value → Shared → Prop} (X : K.In s.heap) (I : InstAt s.heap x ox C od) (I' : InstAt s.heap y oy C od') (hc : selfFirst K C = true)
    (hs : findIn K (.ref C) (PySem.dunder op.info.2) = some (some (.ref f))) (hf : isFn K (.ref f) = true)
    (h : wpAny (model prog w) A (call (.ref f) [.ref x, .ref y]) (PySem.W.CmpBack Q) E s) : wpAny (model prog w) A (binaryOp op (.ref x) (.ref y)) Q E s := by
  obtain ⟨cd, rest, hcd, hm⟩ := ksp_first hc
  rcases hi : op.info with ⟨sym, nm'⟩
  rw [hi] at hs
  dsimp only at hs
  have one := ksp_try X I hs hf h
  obtain ⟨hh, g, d, tt, os⟩ := s
  have l1 : Looks (model prog w) hh (typeOf (.ref x)) (.ref C) := I.type
  have l2 : Looks (model prog w) hh (typeOf (.ref y)) (.ref C) := I'.type
  have l3 : Looks (model prog w) hh (fillsNumberSlot (.ref C) nm') true := fills_K X hcd hm hs
  simp only [binaryOp, hi]
  refine wpAny_holding (wpAny_bind ?_)
  unfold binaryOp1
  refine wpAny_bind (l1.at (wpAny_bind (l2.at (wpAny_bind (l3.at ?_)))))
  simp only [beq_self_eq_true, if_true]
  ksp_lk
  refine wpAny_mono one (fun r s' hr' => ?_) fun _ _ e => e
  obtain ⟨v, rfl, hq⟩ := hr'
  ksp_lk
  exact hq
end
end L3

namespace L3
open PySem L2 PyProof.Rows
section
variable {X : Cx} {CX : CXT} {k : Nat} {C f : Addr} {fd : FuncData} {ps : List PySem.Str} {sp : Sp} {E : XK} {K : PySem.W.Frag}
/-- an instance, as the machine has it -/
theorem inst_of {pins : List (Addr × Obj)} {σ : L2.St} {H : Hp} {s : Shared} {a dx : Addr} {fs : List (PySem.Str × V)} (I : Inv X pins σ H s) (ea : H a = some (.ins C dx fs)) : ∃ ox od, PySem.W.InstAt s.heap a ox C (some od) := by
  obtain ⟨mA, O, _⟩ := ins_get I.hok ea
  obtain ⟨od, J, _⟩ := O.look
  exact ⟨_, od, J⟩
/-- x op y by the def at f of x's class; y an instance of the same class -/
def rOwn2 (C : Addr) (sp : Sp) (E : XK) : R2 := fun x y H Q => ∃ a dx fs b dy gs, x = .ref a ∧ y = .ref b ∧ H a = some (.ins C dx fs) ∧ H b = some (.ins C dy gs) ∧ sp [.ref a, .ref b] H Q E
theorem op_own2 {op : Operator} (hc : PySem.W.selfFirst X.K C = true) (hs : PySem.W.findIn X.K (.ref C) (PySem.dunder op.info.2) = some (some (.ref f))) (hf : PySem.W.isFn X.K (.ref f) = true)
    (F : FnOk X.prog X.w X.K X.mg X.base CX k f fd ps sp) (hr : Room k X.A) (hb : Binds X.K fd ps []) (hx : Passes CX X E) : OpR X (binaryOp op) (rOwn2 C sp E) := by
  intro pins s σ H x y v u Q I rx ry h
  obtain ⟨a, dx, fs, b, dy, gs, rfl, rfl, ea, eb, q⟩ := h
  cases (show v = Value.ref a from rx)
  cases (show u = Value.ref b from ry)
  obtain ⟨ox, od, J⟩ := inst_of I ea
  obtain ⟨oy, od', J'⟩ := inst_of I eb
  refine own_bin I.kIn J J' hc hs hf ?_
  refine wpAny_mono (run_fn (us := [.ref a, .ref b]) (vs := [.ref a, .ref b]) F hr hb .nil hx I (.cons rfl (.cons rfl .nil)) q) (fun r s' z => ?_) fun _ _ e => e
  obtain ⟨z', H', I', rz, qz⟩ := z
  exact SlX.cmpback rz ⟨z', H', I', rz, qz⟩
/-- x == y of two instances of one class -/
theorem op_ownEq (hs : PySem.W.findIn X.K (.ref C) "__eq__" = some (some (.ref f))) (hf : PySem.W.isFn X.K (.ref f) = true)
    (F : FnOk X.prog X.w X.K X.mg X.base CX k f fd ps sp) (hr : Room k X.A) (hb : Binds X.K fd ps []) (hx : Passes CX X E) : OpR X (compareOp .Eq) (rOwn2 C sp E) := by
  intro pins s σ H x y v u Q I rx ry h
  obtain ⟨a, dx, fs, b, dy, gs, rfl, rfl, ea, eb, q⟩ := h
  cases (show v = Value.ref a from rx)
  cases (show u = Value.ref b from ry)
  obtain ⟨ox, od, J⟩ := inst_of I ea
  obtain ⟨oy, od', J'⟩ := inst_of I eb
  obtain ⟨m, hF⟩ := I.fr
  refine PySem.W.cmp_K (op := .Eq) (tb := .ref C) hr.units0 hF I.ok.mod.kin J J'.type (by simp [PySem.W.notFirst]) hs hf ?_
  refine wpAny_mono (run_fn (us := [.ref a, .ref b]) (vs := [.ref a, .ref b]) F hr hb .nil hx I (.cons rfl (.cons rfl .nil)) q) (fun r s' z => ?_) fun _ _ e => e
  obtain ⟨z', H', I', rz, qz⟩ := z
  exact SlX.cmpback rz ⟨z', H', I', rz, qz⟩
/-- v in x, x an instance -/
def rOwnIn (C : Addr) (neg : Bool) (sp : Sp) (E : XK) : R2 := fun x y H Q => ∃ b dy gs, y = .ref b ∧ H b = some (.ins C dy gs) ∧ sp [.ref b, x] H (fun z H' => ∃ k, z = .bl k ∧ Q (.bl (if neg then !k else k)) H') E
theorem op_ownIn (hs : PySem.W.findIn X.K (.ref C) "__contains__" = some (some (.ref f))) (hf : PySem.W.isFn X.K (.ref f) = true)
    (F : FnOk X.prog X.w X.K X.mg X.base CX k f fd ps sp) (hr : Room k X.A) (hb : Binds X.K fd ps []) (hx : Passes CX X E) : OpR X (compareOp .In) (rOwnIn C false sp E) := by
  intro pins s σ H x y v u Q I rx ry h
  obtain ⟨b, dy, gs, rfl, eb, q⟩ := h
  cases (show u = Value.ref b from ry)
  obtain ⟨oy, od', J'⟩ := inst_of I eb
  refine own_in I.kIn J' hs hf ?_
  refine wpAny_mono (run_fn (us := [.ref b, v]) (vs := [.ref b, x]) F hr hb .nil hx I (.cons rfl (.cons rx .nil)) q) (fun r s' z => ?_) fun _ _ e => e
  obtain ⟨z', H', I', rz, k, e, qz⟩ := z
  subst e
  cases rz
  exact ⟨k, rfl, .bl k, H', I', rfl, qz⟩
theorem op_ownNin (hs : PySem.W.findIn X.K (.ref C) "__contains__" = some (some (.ref f))) (hf : PySem.W.isFn X.K (.ref f) = true)
    (F : FnOk X.prog X.w X.K X.mg X.base CX k f fd ps sp) (hr : Room k X.A) (hb : Binds X.K fd ps []) (hx : Passes CX X E) : OpR X (compareOp .NotIn) (rOwnIn C true sp E) := by
  intro pins s σ H x y v u Q I rx ry h
  obtain ⟨b, dy, gs, rfl, eb, q⟩ := h
  cases (show u = Value.ref b from ry)
  obtain ⟨oy, od', J'⟩ := inst_of I eb
  refine own_nin I.kIn J' hs hf ?_
  refine wpAny_mono (run_fn (us := [.ref b, v]) (vs := [.ref b, x]) F hr hb .nil hx I (.cons rfl (.cons rx .nil)) q) (fun r s' z => ?_) fun _ _ e => e
  obtain ⟨z', H', I', rz, k, e, qz⟩ := z
  subst e
  cases rz
  exact ⟨k, rfl, .bl (!k), H', I', rfl, qz⟩
/-- ~x -/
def rOwn1 (C : Addr) (sp : Sp) (E : XK) : V → Hp → VK → Prop := fun x H Q => ∃ a dx fs, x = .ref a ∧ H a = some (.ins C dx fs) ∧ sp [.ref a] H Q E
theorem un_ownInv (hs : PySem.W.findIn X.K (.ref C) "__invert__" = some (some (.ref f))) (hf : PySem.W.isFn X.K (.ref f) = true)
    (F : FnOk X.prog X.w X.K X.mg X.base CX k f fd ps sp) (hr : Room k X.A) (hb : Binds X.K fd ps []) (hx : Passes CX X E) : UnR X (unaryOp .Invert) (rOwn1 C sp E) := by
  intro pins s σ H x v Q I rx h
  obtain ⟨a, dx, fs, rfl, ea, q⟩ := h
  cases (show v = Value.ref a from rx)
  obtain ⟨ox, od, J⟩ := inst_of I ea
  obtain ⟨m, hF⟩ := I.fr
  exact PySem.W.ksp_inv hF I.ok.mod.kin J hs hf (run_fn (us := [.ref a]) (vs := [.ref a]) F hr hb .nil hx I (.cons rfl .nil) q)
end
section
variable {H : Hp} {Q : VK} {C a b dx dy : Addr} {fs gs : List (PySem.Str × V)} {sp : Sp} {E : XK} {x : V} {neg : Bool}
theorem w_own2 (h1 : H a = some (.ins C dx fs)) (h2 : H b = some (.ins C dy gs)) (h : sp [.ref a, .ref b] H Q E) : rOwn2 C sp E (.ref a) (.ref b) H Q := ⟨a, dx, fs, b, dy, gs, rfl, rfl, h1, h2, h⟩
theorem w_own1 (h1 : H a = some (.ins C dx fs)) (h : sp [.ref a] H Q E) : rOwn1 C sp E (.ref a) H Q := ⟨a, dx, fs, rfl, h1, h⟩
def OwnB (neg : Bool) (Q : VK) : VK := fun z H' => ∃ k, z = .bl k ∧ Q (.bl (if neg then !k else k)) H'
theorem w_ownin (h1 : H b = some (.ins C dy gs)) (h : sp [.ref b, x] H (OwnB neg Q) E) : rOwnIn C neg sp E x (.ref b) H Q := ⟨b, dy, gs, rfl, h1, h⟩
theorem w_b0 {k : Bool} (h : Q (.bl k) H) : OwnB false Q (.bl k) H := ⟨k, rfl, h⟩
theorem w_b1 {k : Bool} (h : Q (.bl (!k)) H) : OwnB true Q (.bl k) H := ⟨k, rfl, h⟩
end
end L3

/-! != by object's __ne__ over an own __eq__ -/
namespace L3
open PySem PySem.Calls PyProof.Rows PySem.W
section
variable {prog : Program} {w : World} {A : Around} {E : Value → Shared → Prop} {s : Shared} {K : PySem.W.Frag} {x y C f : Addr} {ox oy : Obj} {od od' : Option Obj}
theorem chk_ne {M : Model} {y : Value} {Q : Unit → Shared → Prop} (X : K.In s.heap) (I : InstAt s.heap x ox C od) (hsub : subIn K (.ref C) (.type "object") = some true) (hq : Q () s) :
    wpAny M A (checkBuiltinCall "object.__ne__" ⟨[.ref x, y], []⟩) Q E s := by
  obtain ⟨hh, g, d, tt, os⟩ := s
  have l1 : Looks M hh (typeOf (.ref x)) (.ref C) := I.type
  have l2 : Looks M hh (isSubtype (.ref C) (.type "object")) true := looks_subIn X hsub
  simp only [checkBuiltinCall, PySem.F.cmpKind_ne, PySem.F.cmpSplit_ne]
  refine wpAny_bind ?_
  · unfold isInstance
    repeat lk
    exact hq
theorem ob_ne {Q : Fin → Shared → Prop} (X : K.In s.heap) (I : InstAt s.heap x ox C od) (hs : findIn K (.ref C) "__eq__" = some (some (.ref f))) (hf : isFn K (.ref f) = true) (hu : A.units < cLine)
    (hcall : wpAny (model prog w) A (call (.ref f) [.ref x, .ref y]) (fun v s' => ∃ b, v = .bool b ∧ Q (.done (.ret (.bool (!b)))) s') E s) :
    wpAny (model prog w) A (Builtin.«object.__ne__» ⟨[.ref x, .ref y], []⟩) Q E s := by
  unfold Builtin.«object.__ne__»
  repeat (first
    | with_reducible refine wpAny_cRoomFor hu ?_
    | (refine wpAny_bind (m := callSpecialIfBound? (.ref x) (PySem.Str.ofString "__eq__") [.ref y])
        (ifBound_K X I hs hf (wpAny_mono hcall (fun r s' hr => by
          obtain ⟨b, rfl, hq⟩ := hr
          repeat (first | exact hq | exact wpAny_pure hq | exact wpAny_truthy_bool hq | (refine wpAny_bind (m := truthy (.bool _)) (wpAny_truthy_bool ?_)) | wp_step)) fun _ _ e => e)))
    | wp_step)
end
end L3

namespace L3
open PySem PySem.Calls PyProof.Rows PySem.W
section
variable {prog : Program} {w : World} {A : Around} {E : Value → Shared → Prop} {s : Shared} {K : PySem.W.Frag} {x y C f : Addr} {ox oy : Obj} {od od' : Option Obj}
theorem try_ne {Q : Option Value → Shared → Prop} (X : K.In s.heap) (I : InstAt s.heap x ox C od) (hs : findIn K (.ref C) "__eq__" = some (some (.ref f))) (hf : isFn K (.ref f) = true) (hn : findIn K (.ref C) "__ne__" = some (some (.builtin "object.__ne__")))
    (hsub : subIn K (.ref C) (.type "object") = some true) (hu : A.units + 1 < cLine)
    (hcall : wpAny (model prog w) A.in1 (call (.ref f) [.ref x, .ref y]) (fun v s' => ∃ b, v = .bool b ∧ Q (some (.bool (!b))) s') E s) :
    wpAny (model prog w) A (tryCompare (.ref x) "__ne__" (.ref y)) Q E s := by
  simp only [tryCompare, callSpecialIfBound?, bindSpecialIfBound?]
  have bnd : bindSpecial (.builtin "object.__ne__") (.ref x) = pure (.builtin "object.__ne__", [.ref x]) := PySem.F.cmp_object.ne.bind (.ref x)
  have body : wpAny (model prog w) A (call (.builtin "object.__ne__") [.ref x, .ref y]) (fun v s' => ∃ b, v = .bool (!b) ∧ Q (some (.bool (!b))) s') E s :=
    wpAny_call (codeAny_call_builtin PySem.F.cmp_object.ne.plain PySem.F.cmpEntry_ne (chk_ne X I hsub (ob_ne (A := A.in1) X I hs hf hu (wpAny_mono hcall (fun v s' hv => by
      obtain ⟨b, rfl, hq⟩ := hv
      exact ⟨b, rfl, b, rfl, hq⟩) fun _ _ e => e))))
  refine wpAny_bind (wpAny_holding (wpAny_bind (wpAny_bind (wpAny_bind (I.type.here ((looks_findIn X hn).here ?_))))))
  simp only [bnd]
  refine wpAny_bind (wpAny_askSetting (wpAny_ite ?_))
  have fin : wpAny (model prog w) A (call (.builtin "object.__ne__") ([.ref x] ++ [.ref y]) >>= fun v => pure (some v)) (fun a s' => wpAny (model prog w) A (match a with | some .notImplemented | none => pure none | some v => pure (some v)) Q E s') E s :=
    wpAny_bind (wpAny_mono body (fun v s' h' => by
      obtain ⟨b, rfl, hq⟩ := h'
      exact wpAny_pure (wpAny_pure hq)) fun _ _ h' => h')
  split
  · exact wpAny_bind (wpAny_pure (wpAny_pure (by exact fin)))
  · exact wpAny_tryCatch (wpAny_bind (wpAny_pure (wpAny_pure (by exact fin))))
theorem own_ne {Q : Value → Shared → Prop} (X : K.In s.heap) (I : InstAt s.heap x ox C od) (I' : InstAt s.heap y oy C od') (hs : findIn K (.ref C) "__eq__" = some (some (.ref f))) (hf : isFn K (.ref f) = true)
    (hn : findIn K (.ref C) "__ne__" = some (some (.builtin "object.__ne__"))) (hsub : subIn K (.ref C) (.type "object") = some true) (hu : A.units + 1 < cLine)
    (hcall : wpAny (model prog w) A.in1 (call (.ref f) [.ref x, .ref y]) (fun v s' => ∃ b, v = .bool b ∧ Q (.bool (!b)) s') E s) :
    wpAny (model prog w) A (compareOp .NotEq (.ref x) (.ref y)) Q E s := by
  show wpAny (model prog w) A (richCompare .NotEq (.ref x) (.ref y)) Q E s
  unfold richCompare
  simp only [oneThing_ref]
  refine wpAny_holding ?_
  refine wpAny_bind (wpAny_cRoomFor (Nat.lt_of_succ_lt hu) ?_)
  rw [cmpInfo_NotEq]
  dsimp only
  refine wpAny_bind (I.type.here (wpAny_bind (I'.type.here ?_)))
  rw [show (Value.ref C != Value.ref C) = false from by simp]
  simp only [Bool.false_eq_true, if_false]
  refine wpAny_bind (wpAny_pure ?_)
  simp only [Bool.false_eq_true, if_false]
  refine wpAny_bind (try_ne X I hs hf hn hsub hu (wpAny_mono hcall (fun v s' hv => ?_) fun _ _ e => e))
  obtain ⟨b, rfl, hq⟩ := hv
  first | exact ⟨b, rfl, wpAny_pure hq⟩ | exact ⟨b, rfl, wpAny_pure (wpAny_pure hq)⟩
end
end L3
namespace L3
open PySem L2 PyProof.Rows
section
variable {X : Cx} {CX : CXT} {k : Nat} {C f : Addr} {fd : FuncData} {ps : List PySem.Str} {sp : Sp} {E : XK}
/-- x != y of two instances of one class with an own __eq__ -/
def rOwnNe (C : Addr) (sp : Sp) (E : XK) : R2 := fun x y H Q => ∃ a dx fs b dy gs, x = .ref a ∧ y = .ref b ∧ H a = some (.ins C dx fs) ∧ H b = some (.ins C dy gs) ∧ sp [.ref a, .ref b] H (OwnB true Q) E
theorem op_ownNe (hs : PySem.W.findIn X.K (.ref C) "__eq__" = some (some (.ref f))) (hf : PySem.W.isFn X.K (.ref f) = true) (hn : PySem.W.findIn X.K (.ref C) "__ne__" = some (some (.builtin "object.__ne__")))
    (hsub : PySem.W.subIn X.K (.ref C) (.type "object") = some true)
    (F : FnOk X.prog X.w X.K X.mg X.base CX k f fd ps sp) (hr : Room (k + 1) X.A) (hb : Binds X.K fd ps []) (hx : Passes CX X.nox E) : OpR X (compareOp .NotEq) (rOwnNe C sp E) := by
  intro pins s σ H x y v u Q I rx ry h
  obtain ⟨a, dx, fs, b, dy, gs, rfl, rfl, ea, eb, q⟩ := h
  cases (show v = Value.ref a from rx)
  cases (show u = Value.ref b from ry)
  obtain ⟨ox, od, J⟩ := inst_of I ea
  obtain ⟨oy, od', J'⟩ := inst_of I eb
  have hu : X.A.units + 1 < cLine := hu_of hr
  refine own_ne I.kIn J J' hs hf hn hsub hu ?_
  have r2 : Vals [V.ref a, V.ref b] [Value.ref a, Value.ref b] := .cons rfl (.cons rfl .nil)
  have hl : ([Value.ref a, Value.ref b] ++ ([] : List Value)).length = ps.length := by rw [← F.len _ _ _ _ q]; rfl
  refine wpAny_call (codeAny_mono (F.run X.A.in1 X.stack s H ⟨[.ref a, .ref b], []⟩ [.ref a, .ref b] [.ref a, .ref b] _ E hr.in1 I.env0.in1 (by
    have := hb s [.ref a, .ref b] I.kIn hl
    simpa using this) r2 q) fun r s' hq => ?_)
  cases r with
  | error e => exact False.elim (hx pins σ H s e s' (I.wish _) hq)
  | ok fl =>
    cases fl with
    | ret w' =>
      obtain ⟨z, H', I', rz, kb, ez, qz⟩ := I.after hq
      subst ez
      cases rz
      exact ⟨kb, rfl, .bl (!kb), H', I', rfl, qz⟩
    | next => exact False.elim hq
    | brk => exact False.elim hq
    | cont => exact False.elim hq
end
section
variable {H : Hp} {Q : VK} {C a b dx dy : Addr} {fs gs : List (PySem.Str × V)} {sp : Sp} {E : XK}
theorem w_ownne (h1 : H a = some (.ins C dx fs)) (h2 : H b = some (.ins C dy gs)) (h : sp [.ref a, .ref b] H (OwnB true Q) E) : rOwnNe C sp E (.ref a) (.ref b) H Q := ⟨a, dx, fs, b, dy, gs, rfl, rfl, h1, h2, h⟩
end
end L3

/-! comprehensions whose items are new lists -/
namespace L3
open PySem L2 PyProof.Rows
section
variable {H : Hp} {Q : VK} {g : TG} {tt : TT} {te : TE} {vs : List Nat} {σ : L2.St}
theorem Fr.back {H H1 : Hp} {q : Addr} (s : Same H H1) (h : Fr H1 q) : Fr H q := ⟨s.free h.out⟩
theorem lcr1_rows {j : Int} (f : Nat → List V) (b1 : -(2 ^ 62) ≤ j) (hz : j ≤ 100000)
    (hs : ∀ i : Nat, (i : Int) < j → ∀ H1, Same H H1 → ∀ Z : Option V → Hp → Prop, (∀ q H2, Fr H1 q → Same H1 H2 → H2 q = some (.lst (f i)) → Z (some (.ref q)) H2) → LcT g tt te vs σ (.int i) H1 Z)
    (k : ∀ D (qs : List Addr) H', Fr H D → Same H H' → qs.length = j.toNat → qs.Nodup → D ∉ qs → (∀ q ∈ qs, Fr H q) → (∀ (i : Nat) q, qs[i]? = some q → H' q = some (.lst (f i))) → H' D = some (.lst (qs.map V.ref)) → Q (.ref D) H') : LcR1 g tt te vs σ [.int j] H Q := by
  refine ⟨j, rfl, b1, by omega, fun D hD => lc_range (fun i H' => i ≤ j.toNat ∧ Same H H' ∧ ∃ qs : List Addr, qs.length = i ∧ qs.Nodup ∧ D ∉ qs ∧ (∀ q ∈ qs, Fr H q) ∧ (∀ (k : Nat) q, qs[k]? = some q → H' q = some (.lst (f k))) ∧ H' D = some (.lst (qs.map V.ref)))
    ⟨Nat.zero_le _, same_upd hD, [], rfl, List.nodup_nil, List.not_mem_nil, fun q h => absurd h List.not_mem_nil, fun k q h => by simp at h, upd_same⟩ ?_ ?_⟩
  · rintro i H1 hlt ⟨hi, sH, qs, hl, hn, hDq, hf, hq, eD⟩
    rw [Int.zero_add]
    refine hs i (by omega) H1 sH (fun o H4 => match o with
      | some y => ∃ acc, H4 D = some (.lst acc) ∧ acc.length < sizeLine ∧ (i + 1 ≤ j.toNat ∧ Same H (upd H4 D (.lst (acc ++ [y]))) ∧ ∃ qs : List Addr, qs.length = i + 1 ∧ qs.Nodup ∧ D ∉ qs ∧ (∀ q ∈ qs, Fr H q) ∧ (∀ (k : Nat) q, qs[k]? = some q → (upd H4 D (.lst (acc ++ [y]))) q = some (.lst (f k))) ∧ (upd H4 D (.lst (acc ++ [y]))) D = some (.lst (qs.map V.ref)))
      | none => i + 1 ≤ j.toNat ∧ Same H H4 ∧ ∃ qs : List Addr, qs.length = i + 1 ∧ qs.Nodup ∧ D ∉ qs ∧ (∀ q ∈ qs, Fr H q) ∧ (∀ (k : Nat) q, qs[k]? = some q → H4 q = some (.lst (f k))) ∧ H4 D = some (.lst (qs.map V.ref))) fun q H2 fq s2 hq2 => ?_
    have qD : q ≠ D := ne_new fq eD
    have qn : q ∉ qs := fun m => by
      obtain ⟨n, hn2, e⟩ := List.getElem_of_mem m
      have e2 : qs[n]? = some q := by rw [List.getElem?_eq_getElem hn2, e]
      exact ne_new fq (hq n q e2) rfl
    refine ⟨qs.map V.ref, s2 _ _ eD, ?_, hlt, fun b o e => ?_, qs ++ [q], by rw [List.length_append, hl]; rfl, ?_, ?_, ?_, ?_, by rw [upd_same, List.map_append]; rfl⟩
    · rw [List.length_map, hl]
      exact Nat.lt_of_le_of_lt (by omega : _ ≤ 100000) (by decide)
    · rw [upd_ne (ne_of_none e hD)]
      exact s2 _ _ (sH _ _ e)
    · rw [List.nodup_append]
      exact ⟨hn, by simp, fun a ha b hb => by simp at hb; subst hb; intro e; subst e; exact qn ha⟩
    · intro m
      rcases List.mem_append.mp m with m | m
      · exact hDq m
      · simp at m; exact qD m.symm
    · intro q' m
      rcases List.mem_append.mp m with m | m
      · exact hf q' m
      · simp at m; subst m; exact fq.back sH
    · intro n q' e
      have ne : q' ≠ D := fun z => by
        subst z
        rcases List.mem_append.mp (List.mem_of_getElem? e) with m | m
        · exact hDq m
        · simp at m; exact qD m.symm
      rw [upd_ne ne]
      by_cases hlt2 : n < qs.length
      · rw [List.getElem?_append_left hlt2] at e
        exact s2 _ _ (hq n q' e)
      · rw [List.getElem?_append_right (by omega)] at e
        have hn0 : n - qs.length = 0 := by
          have := (List.getElem?_eq_some_iff.mp e).1
          simp at this
          omega
        rw [hn0] at e
        simp at e
        subst e
        have : n = i := by omega
        subst this
        exact hq2
  · rintro H1 ⟨_, sH, qs, hl, hn, hDq, hf, hq, eD⟩
    exact k D qs H1 ⟨hD⟩ sH hl hn hDq hf hq eD
end
/-! isinstance of an own instance, of its own class -/
section
variable {K : PySem.W.Frag} {H : Hp} {Q : VK} {a C dx : Addr} {fs : List (PySem.Str × V)}
structure IsiC (K : PySem.W.Frag) (C : Addr) : Prop where
  ca : PySem.W.findIn K (.ref C) "__class__" = some (some (.builtin "object.__class__"))
  cn : PySem.W.specialIn K (.builtin "object.__class__") "__get__" = some (some (.builtin "getset_descriptor.__get__"))
  ct : PySem.W.takesIn K (.builtin "object.__class__") = some true
  cm : PySem.W.mroIn K C (.type "object") = some true
theorem isi_own (h1 : H a = some (.ins C dx fs)) (c : Cls K C) (i : IsiC K C) (h : Q (.bl true) H) : rIsi K [.ref a, .ref C] H Q :=
  ⟨_, _, _, _, true, rfl, .own C, .base (.ins h1 c i.ca i.cn i.ct i.cm), by unfold PySem.W.kitOne; rw [if_pos (by exact beq_self_eq_true _)], h⟩
end
end L3

/-! methods of lists; heaps that are as they were but for some addresses -/
namespace L3
open PySem L2 PyProof.Rows
section
variable {K : PySem.W.Frag} {H : Hp} {Q : VK} {a : Addr} {xs ys : List V} {to : TE} {t : TA} {σ : L2.St} {x y : V} {r : V → List V → Hp → VK → Prop} {T : String}
def BmR (K : PySem.W.Frag) (T : String) (r : V → List V → Hp → VK → Prop) (t : TA) (σ : L2.St) (x : V) (H : Hp) (Q : VK) : Prop := tyV K T x H ∧ t σ H fun xs H2 => r x xs H2 Q
def Bm0R (K : PySem.W.Frag) (T : String) (r : V → List V → Hp → VK → Prop) (x : V) (H : Hp) (Q : VK) : Prop := tyV K T x H ∧ r x [] H Q
theorem g_bm (h : to σ H fun x H1 => BmR K T r t σ x H1 Q) : tBM K T r to t σ H Q := h
theorem g_bm0 (h : to σ H fun x H1 => Bm0R K T r x H1 Q) : tBM0 K T r to σ H Q := h
theorem bm_l (h1 : H a = some (.lst xs)) (h : t σ H fun ys H2 => r (.ref a) ys H2 Q) : BmR K "list" r t σ (.ref a) H Q := ⟨Or.inl ⟨rfl, _, SqL.of h1⟩, h⟩
theorem bm0_l (h1 : H a = some (.lst xs)) (h : r (.ref a) [] H Q) : Bm0R K "list" r (.ref a) H Q := ⟨Or.inl ⟨rfl, _, SqL.of h1⟩, h⟩
theorem ap_append (h1 : H a = some (.lst xs)) (hz : xs.length < 100000) (h : ∀ H', SB a H H' → H' a = some (.lst (xs ++ [y])) → Q .non H') : rAppend (.ref a) [y] H Q :=
  ⟨a, xs, y, rfl, rfl, h1, Nat.lt_of_lt_of_le hz (by decide), h _ sb_upd upd_same⟩
end
/-- all but what stands in l is as it was -/
def SBs (l : List Addr) (H H' : Hp) : Prop := ∀ a o, a ∉ l → H a = some o → H' a = some o
theorem SBs.same {l : List Addr} {H H1 H2 : Hp} (a : Same H H1) (h : ∀ q ∈ l, Fr H q) (b : SBs l H1 H2) : Same H H2 := fun c o q => b c o (fun m => by have := (h c m).out; rw [q] at this; cases this) (a c o q)
theorem SBs.sb {l : List Addr} {H H1 H2 : Hp} {p : Addr} (a : SBs l H H1) (hp : p ∈ l) (b : SB p H1 H2) : SBs l H H2 := fun c o n q => b c o (fun e => n (e ▸ hp)) (a c o n q)
theorem SBs.tr {l : List Addr} {H H1 H2 : Hp} (a : SBs l H H1) (b : Same H1 H2) : SBs l H H2 := fun c o n q => b c o (a c o n q)
end L3

set_option Elab.async false
set_option linter.all false
set_option maxRecDepth 100000
set_option maxHeartbeats 2000000
/-! several clauses «except C as e»; isinstance and fields of an own error that has a dict; calls that may let an error out, inside a try -/
namespace L3
open PySem PySem.Spec L2 PyProof.Rows
def endA (i : Nat) (D : Ends) : Ends := { nx := fun σ' H' => D.nx (σ'.set i none) H', rt := D.rt, bk := fun σ' H' => D.bk (σ'.set i none) H', ct := fun σ' H' => D.ct (σ'.set i none) H' }
def wManyA (K : PySem.W.Frag) (Wout : WX) (i : Nat) (D : Ends) : List (Value × (Addr → Value → Option Addr → TS)) → WX
  | [] => Wout
  | (c, ts) :: r => fun cls d σ H => ∃ b, PySem.W.exmOne K cls c = some b ∧ (b = true → ∀ a, H a = none → ts a cls d (endA i D) (σ.set i (some (.ref a))) H) ∧ (b = false → wManyA K Wout i D r cls d σ H)
inductive HdsA (X : Cx) (n : Str) : List ExceptHandler → List (Value × (Addr → Value → Option Addr → TS)) → Prop
  | nil : HdsA X n [] []
  | cons {x : Str} {c : Value} {ts : Addr → Value → Option Addr → TS} {b₀ : Stmt} {suite : List Stmt} {np pos' : Pos} {hds : List ExceptHandler} {l : List (Value × (Addr → Value → Option Addr → TS))} (hc : Names X x c)
      (hsu : ∀ (a : Addr) (oe : Obj) (cls : Value) (d : Option Addr) (pn : List (Addr × Obj)), Zc cls d oe → (∃ vs, oe.data = .fields vs) → PSs (X.suite a ((a, oe) :: pn)) (b₀ :: suite) (ts a cls d)) (r : HdsA X n hds l) :
      HdsA X n (.ExceptHandler (some (.Name x np)) (some n) (b₀ :: suite) pos' :: hds) ((c, ts) :: l)
def tTryA (K : PySem.W.Frag) (Wout : WX) (i : Nat) (l : List (Value × (Addr → Value → Option Addr → TS))) (tb : WX → TS) : TS := fun D σ H => tb (wManyA K Wout i D l) D σ H
section
variable {X : Cx} {n : Str} {i : Nat} {body : List Stmt} {h₀ : ExceptHandler} {hds : List ExceptHandler} {l : List (Value × (Addr → Value → Option Addr → TS))} {pos : Pos} {tb : WX → TS} {Wout : WX}
theorem ps_tryA (hs : X.stack = X.env :: X.outer) (hf : X.env.frame = some X.env.locals) (hN : X.N.Nodup) (hi : X.N[i]? = some n) (hln : X.env.kindOf n = some .local) (tk : Takes X Wout)
    (hb : ∀ (W : WX) (pn : List (Addr × Obj)) (xe : Value → Shared → Prop), Takes (X.tr pn xe) W → PassesOwn (model X.prog X.w) X.A X.env xe → PSs (X.tr pn xe) body (tb W))
    (hh : HdsA X n (h₀ :: hds) l) : PS X (.Try body (h₀ :: hds) [] [] pos) (tTryA X.K Wout i l tb) := by
  refine ⟨fun pins s σ H D I h => ?_⟩
  have ok := I.ok
  have hfr : X.A.frames = some (X.env :: X.outer) := by rw [ok.frames, hs]
  have hloc : Loc X.env.scope n := .inl hln
  refine wpAny_Try_except ?_
  refine wpAny_mono ((hb (wManyA X.K Wout i D l) (X.pn ++ pins) (fun e s₁ => wpAny (model X.prog X.w) X.A (noteFrame e X.env) (fun _ s₂ => wpAny (model X.prog X.w) X.A (setFlight e none) (fun _ s₃ =>
    wpAny (model X.prog X.w) X.A (handleBy e X.env (h₀ :: hds)) (SP X pins D) X.xe s₃) X.xe s₂) X.xe s₁) (fun u s' xx => ?_) PassesOwn.looking).run [] s σ H D (I.toTry _) h) (fun f s1 hsp => ?_) (fun e s1 he => he)
  · obtain ⟨a, B, sI, pins', σ', H', cls, d, rfl, J', nb, up, sky, na, os, ag, w⟩ := xx
    have J : Inv X pins σ' H' sI := J'.ofTry ok
    have sky' : Sky B (X.env :: X.outer) a (Zc cls d) X.env.locals s'.heap := by rw [← hs]; exact sky
    show wpAny (model X.prog X.w) X.A (noteFrame (.ref a) X.env) _ _ _
    refine Sky.land Zc.steady hfr hf sky' fun h3 fl3 up3 => ?_
    have J3 : Inv X pins σ' H' { s' with heap := h3 } := J.landed nb fl3.1 (up.trans up3) os ag
    obtain ⟨oe3, vs3, he3, hz3, hd3⟩ := fl3.there
    have notFr : ∀ {h : Heap} {o : Obj} {vs : Array Value}, h.FunFrames B (X.env :: X.outer) → h.get? a = some o → o.data = .fields vs → a ∉ frs (X.env :: X.outer) := fun {h o vs} ff e dd hm => by
      obtain ⟨_, o', e', hnf⟩ := ff.mem hm
      rw [e] at e'; cases e'
      exact hnf _ dd
    have nfr := notFr fl3.2.2.1 he3 hd3
    have nL : a ≠ X.env.locals := fun z => nfr (List.mem_filterMap.mpr ⟨X.env, List.mem_cons_self, by rw [hf, z]⟩)
    have nF : a ∉ X.fs := fun hm => by
      obtain ⟨e, he, q⟩ := List.mem_filterMap.mp hm
      exact nfr (List.mem_filterMap.mpr ⟨e, List.mem_cons_of_mem _ he, q⟩)
    have S3 := J3.suite he3 hd3 na nL nF
    have go : ∀ {hds' : List ExceptHandler} {l' : List (Value × (Addr → Value → Option Addr → TS))}, HdsA X n hds' l' → wManyA X.K Wout i D l' cls d σ' H' →
        wpAny (model X.prog X.w) X.A (handleBy (.ref a) X.env hds') (SP X pins D) X.xe { s' with heap := h3 } := by
      intro hds' l' hk
      induction hk with
      | nil =>
        intro w
        refine wpAny_handleBy_nil ?_
        obtain ⟨k1, k2, k3, oe, vs, T, oT, ts', he, hz, hd, h1, hr⟩ := id fl3
        unfold PySem.passOn
        refine wpAny_bind (wpAny_field he hd h1 ?_)
        rw [if_neg (show ¬ ((Value.ref T == Value.none) = true) from by simp)]
        have fin : wpAny (model X.prog X.w) X.A (setFlight (.ref a) X.env.frame) (fun _ s4 => wpAny (model X.prog X.w) X.A (throw (.ref a) : Sem Flow) (SP X pins D) X.xe s4) X.xe { s' with heap := h3 } := by
          rw [hf]
          refine HandSPX.setFlight_upZ fl3 fun h4 hh4 up4 => wpAny_throw (tk _ _ ?_)
          exact ⟨a, B, sI, pins, σ', H', cls, d, rfl, J, nb, (up.trans up3).trans up4, .inr (.inr (by rw [hs]; exact hh4)), na, os, ag, w⟩
        first
          | exact wpAny_bind (wpAny_pure (wpAny_bind fin))
          | exact wpAny_bind fin
      | @cons x c ts b₀ suite np pos' hds2 l2 hc hsu r ih =>
        intro w
        obtain ⟨b, hb1, hyes, hno⟩ := w
        refine wpAny_handleBy_cons (codeAny_handlers_test ?_) (by intro q; cases q)
        have LT : PySem.W.Looks (model X.prog X.w) h3 (typeOf (.ref a)) cls := fun A Q E s k q => wpAny_typeOf_ref (k _ _ he3) (by rw [hz3.1]; exact q)
        have LM := PySem.W.exm_one (M := model X.prog X.w) (J3.kIn) LT hb1
        have test : ∀ {Q : Value → Shared → Prop} {E : Value → Shared → Prop}, Q c { s' with heap := h3 } → wpAny (model X.prog X.w) (X.A.mark (some (.ref a))) (eval (.Name x np) X.env) Q E { s' with heap := h3 } := fun {Q E} q => by
          obtain ⟨hg, hdbg, hm | ⟨hm, hv, hnn⟩⟩ := hc
          · exact ld_glob (X := X.suite a ((a, oe3) :: (X.pn ++ pins))) S3 hg hm q hdbg
          · exact ld_blt (X := X.suite a ((a, oe3) :: (X.pn ++ pins))) S3 hg hm hv q hnn hdbg
        refine test (LM.here ?_)
        cases b with
        | true =>
          refine codeAny_handlers_suite_as ?_
          refine HandSPX.lands_againZ fl3 fun h4 fl4 up4 => ?_
          have J4 : Inv X pins σ' H' { s' with heap := h4 } := J.landed nb fl4.1 ((up.trans up3).trans up4) os ag
          obtain ⟨oe4, vs4, he4, hz4, hd4⟩ := fl4.there
          have S4 := J4.suite he4 hd4 na nL nF
          refine store_ok (X := X.suite a ((a, oe4) :: (X.pn ++ pins))) (v := .ref a) S4 hN hi hloc rfl (fun s5 S5 => ?_) (.inr hln)
          refine wpAny_mono ((hsu a oe4 cls d (X.pn ++ pins) hz4 ⟨_, hd4⟩).run [] s5 _ H' _ S5 (hyes rfl a na)) (fun f s6 hsp => ?_) (fun _ _ z => False.elim z)
          have end_ : ∀ {σ6 : L2.St} {H6 : Hp} {Q : Shared → Prop}, Inv (X.suite a ((a, oe4) :: (X.pn ++ pins))) [] σ6 H6 s6 → (∀ s7, Inv X pins (σ6.set i none) H6 s7 → Q s7) →
              wpAny (model X.prog X.w) X.A (do bindName X.env n .none; unbindBehindTheSuite X.env n pos') (fun _ s7 => Q s7) X.xe s6 := fun {σ6 H6 Q} S6 hq => gone_ok (S6.unsuite ok) hN hi hln hq
          cases f with
          | next =>
            obtain ⟨σ6, H6, S6, q6⟩ := hsp
            exact end_ S6 fun s7 J7 => ⟨_, _, J7, q6⟩
          | brk =>
            obtain ⟨σ6, H6, S6, q6⟩ := hsp
            exact end_ S6 fun s7 J7 => ⟨_, _, J7, q6⟩
          | cont =>
            obtain ⟨σ6, H6, S6, q6⟩ := hsp
            exact end_ S6 fun s7 J7 => ⟨_, _, J7, q6⟩
          | ret u =>
            obtain ⟨v6, σ6, H6, S6, r6, q6⟩ := hsp
            exact end_ S6 fun s7 J7 => ⟨_, _, _, J7, r6, q6⟩
        | false =>
          show wpAny _ X.A (handleBy (.ref a) X.env hds2) _ _ _
          exact ih (hno rfl)
    exact go hh w
  · cases f with
    | next =>
      obtain ⟨σ', H', J', q⟩ := hsp
      exact wpAny_execs_nil ⟨σ', H', J'.ofTry ok, q⟩
    | brk =>
      obtain ⟨σ', H', J', q⟩ := hsp
      exact ⟨σ', H', J'.ofTry ok, q⟩
    | cont =>
      obtain ⟨σ', H', J', q⟩ := hsp
      exact ⟨σ', H', J'.ofTry ok, q⟩
    | ret u =>
      obtain ⟨v, σ', H', J', r, q⟩ := hsp
      exact ⟨v, σ', H', J'.ofTry ok, r, q⟩
end

/-! ### an own error in hand -/
/-- what a class of own errors with one field f must have -/
structure Erc (K : PySem.W.Frag) (C : Addr) : Prop where
  o : OexC K C
  x : XfC K C
  i : ExcC K C
/-- isinstance(e, c), e the caught error (its class cls, its dict d) -/
def rIsD (K : PySem.W.Frag) (a : Addr) (cls : Value) (d : Option Addr) : List V → Hp → VK → Prop := fun xs H Q => ∃ (D dd : Addr) (fs : List (Str × V)) (c : V) (cv : Value) (b : Bool), cls = .ref D ∧ d = some dd ∧ H dd = some (.xd fs) ∧ Erc K D ∧
  xs = [.ref a, c] ∧ (∀ u, RelV c u → u = cv) ∧ PySem.W.kitOne K (.ref D) cv = some b ∧ Q (.bl b) H
theorem call_isD {X : Cx} {K : PySem.W.Frag} {a : Addr} {oe : Obj} {cls : Value} {d : Option Addr} {pn : List (Addr × Obj)} (hK : X.K = K) (hz : Zc cls d oe) (hf : ∃ vs, oe.data = .fields vs) : CallR (X.suite a ((a, oe) :: pn)) (.builtin "isinstance") (rIsD K a cls d) := by
  subst hK
  intro pins s σ H xs us Q I r h
  obtain ⟨D, dd, fs, c, cv, b, ecls, ed, edd, T, rfl, hcv, e, q⟩ := h
  cases r with
  | cons rx rr =>
    cases rr with
    | cons rt rr =>
      cases rr
      cases rx
      have ec := hcv _ rt
      subst ec
      subst ecls
      subst ed
      obtain ⟨hget, _⟩ := I.pin (a, oe) (List.mem_append.mpr (.inl List.mem_cons_self))
      obtain ⟨vs, hv⟩ := hf
      have hx : ObjOk X.prog X.w H s.heap dd (.xd fs) := I.hok dd _ edd
      obtain ⟨mA, hns, hr⟩ := hx
      obtain ⟨od, ho, hl⟩ := lookIn_ns hns
      have J : PySem.W.InstAt s.heap a oe D (some od) := ⟨hget, hz.1, by unfold PySem.W.notCls; rw [hv] <;> rfl, by rw [hz.2]; exact ho⟩
      have C := T.i
      have hcl : (PySem.W.clsIn X.K D).isSome = true := by
        obtain ⟨cdD, hcD, _⟩ := PySem.W.any_some C.hd
        rw [hcD]; rfl
      exact PySem.W.kia_one (PySem.W.kitx_exc hcl C.hg C.hk C.hs C.ha C.hn C.ht C.hm) I.kIn J e (fun z => nomatch z) fun tk => ⟨.bl b, H, I.kept (t' := tk) fun _ _ z => z, rfl, q⟩
/-- e.f, e the caught error -/
def tXd (K : PySem.W.Frag) (a : Addr) (cls : Value) (d : Option Addr) (f : Str) (te : TE) : TE := fun σ H Q => te σ H fun x H1 => ∃ (C dd : Addr) (fs : List (Str × V)) (v : V), x = .ref a ∧ cls = .ref C ∧ Erc K C ∧ PySem.W.findIn K (.ref C) f = some none ∧
  d = some dd ∧ H1 dd = some (.xd fs) ∧ fs.lookup f = some v ∧ Q v H1
theorem pe_xd {X : Cx} {K : PySem.W.Frag} {a : Addr} {oe : Obj} {cls : Value} {d : Option Addr} {pn : List (Addr × Obj)} {e : Expr} {te : TE} {pos : Pos} {n : Str} (hK : X.K = K)
    (hz : Zc cls d oe) (hf : ∃ vs, oe.data = .fields vs) (he : PE (X.suite a ((a, oe) :: pn)) e te) (hb : attributeBase e n X.env (eval e X.env) = eval e X.env := by rfl) :
    PE (X.suite a ((a, oe) :: pn)) (.Attribute e n pos) (tXd K a cls d n te) := by
  subst hK
  refine ⟨fun pins s σ H Q I h => ?_⟩
  refine attr_of hb (thn (he.run pins s σ H _ I h) fun u s1 hh => ?_)
  obtain ⟨x, H1, I1, rx, C, dd, fs, v, ex, ec, T, hno, ed, ea, l, q⟩ := hh
  subst ex
  obtain rfl : u = Value.ref a := rx
  subst ec
  subst ed
  obtain ⟨ha, _⟩ := I1.pin (a, oe) (List.mem_append_left _ List.mem_cons_self)
  obtain ⟨vs, hd⟩ := hf
  have hx : ObjOk X.prog X.w H1 s1.heap dd (.xd fs) := I1.hok dd _ ea
  obtain ⟨mA, hns, hr⟩ := hx
  obtain ⟨od, ho, hl⟩ := lookIn_ns hns
  obtain ⟨u, hu, ru⟩ := RelO.some_of (v := v) (o := mA n) (by rw [← l]; exact hr n)
  have J : PySem.W.InstAt s1.heap a oe C (some od) := ⟨ha, hz.1, by unfold PySem.W.notCls; rw [hd] <;> rfl, by rw [hz.2]; exact ho⟩
  exact HandSPX.exc_get I1.kIn J T.x.ga T.x.gg T.x.exC (PySem.W.findObj_own T.x.hdC hno rfl (by rw [hl, hu])) (handed_of ru) ⟨v, H1, I1.tok _, ru, q⟩

/-! ### calls that may let an error out, at the slots σ -/
section
variable {X : Cx} {CX : CXT} {k m' : Nat} {f C : Addr} {fd : FuncData} {ps ks : List Str} {sp : Sp} {E : L2.St → XK} {x m : Str} {p pos apos : Pos} {e o : Expr} {es : List Expr} {kws : List Keyword} {ta : TE} {t tk : TA}
def tMethS (C : Addr) (m : Str) (sp : Sp) (E : L2.St → XK) (te : TE) (t : TA) : TE := fun σ H Q => tMeth C m sp [] (E σ) te t σ H Q
theorem pe_methT {pl : Sem Bool} (he : PE X o ta) (c : Cls X.K C) (hm : Meth X.K C m f) (F : FnOk X.prog X.w X.K X.mg X.base CX k f fd ps sp) (hr : Room k X.A) (hb : Binds X.K fd ps []) (hx : ∀ σ, PassesAt CX X σ (E σ)) (ha : PA X (e :: es) t)
    (hst : starEach (e :: es) X.env = (false, eval e X.env) :: starEach es X.env := by rfl) (hpl : (backTo pos (starEach es X.env)).any (·.1) = false := by rfl)
    (ht : eval (.Call (.Attribute o m apos) (e :: es) [] pos) X.env = (do
      let ov ← eval o X.env
      standAt apos.atName
      let (f, first) ← holding [ov] (getMethod ov m pl)
      callWith pos f first (backTo pos (starEach (e :: es) X.env)) (backToKw pos (keywordEach [] X.env))) := by rfl) :
    PE X (.Call (.Attribute o m apos) (e :: es) [] pos) (tMethS C m sp E ta t) := by
  refine ⟨fun pins s σ H Q I h => ?_⟩
  refine PySem.W.methodCall_KW (pl := pl) (thn (he.run pins s σ H _ I h) fun u s1 ⟨x, H1, I1, rx, a, dx, fs, ex, ea, l, q⟩ => ?_) ht
  subst ex
  obtain rfl : u = Value.ref a := rx
  refine getmeth_ok I1 ea c hm l ?_
  refine PySem.W.callWith_K (first := [.ref a]) (h₀ := X.base) I.ok.mod.kin hm.kp (thn (ha.run pos pins s1 σ H1 _ I1 q) fun us s2 ⟨vs, H2, I2, r, q2⟩ => ⟨I2.kIn, ?_⟩) hst hpl
  have q3 : sp (V.ref a :: (vs ++ [])) H2 Q (E σ) := q2
  rw [List.append_nil] at q3
  exact run_fnS (us := .ref a :: us) (vs := .ref a :: vs) F hr hb (hx σ) I2 (.cons rfl r) q3
theorem run_fnNS {n : Nat} {g : List Value → List Value → List Value} {gV : List V → List V → List V} {pins : List (Addr × Obj)} {σ : L2.St} {H : Hp} {s : Shared} {Q : VK} {us ws : List Value} {vs zs : List V} (F : FnOk X.prog X.w X.K X.mg X.base CX k f fd ps sp) (hr : Room k X.A) (hb : KBn X.K fd ps n ks g gV) (hx : PassesAt CX X σ (E σ))
    (I : Inv X pins σ H s) (r : Vals vs us) (rz : Vals zs ws) (l1 : vs.length = n) (l2 : zs.length = ks.length) (h : sp (gV vs zs) H Q (E σ)) : wpAny (model X.prog X.w) X.A (call (.ref f) us (ks.zip ws)) (EP X pins σ Q) X.xe s := by
  have r2 := hb.rel r rz
  refine wpAny_call (codeAny_mono (F.run X.A X.stack s H ⟨us, ks.zip ws⟩ (g us ws) (gV vs zs) Q (E σ) hr I.env0 (hb.to s us ws I.kIn (r.length.symm.trans l1) (rz.length.symm.trans l2)) r2 h) fun r s' hq => ?_)
  cases r with
  | error e => exact hx pins H s e s' I hq
  | ok fl =>
    cases fl with
    | ret u => exact I.after hq
    | next => exact False.elim hq
    | brk => exact False.elim hq
    | cont => exact False.elim hq
def tMethKS (C : Addr) (m : Str) (n j : Nat) (sp : Sp) (gV : List V → List V → List V) (E : L2.St → XK) (te : TE) (t tk : TA) : TE := fun σ H Q => tMethK C m n j sp gV (E σ) te t tk σ H Q
theorem pe_methTK0 {n : Nat} {g : List Value → List Value → List Value} {gV : List V → List V → List V} {pl : Sem Bool} (he : PE X o ta) (c : Cls X.K C) (hm : Meth X.K C m f) (F : FnOk X.prog X.w X.K X.mg X.base CX k f fd ps sp) (hr : Room k X.A) (hb : KBn X.K fd ps n ks g gV) (hx : ∀ σ, PassesAt CX X σ (E σ)) (hkw : PK X kws tk)
    (hall : (backToKw pos (keywordEach kws X.env)).all (·.1.isSome) = true := by rfl) (hks : (backToKw pos (keywordEach kws X.env)).filterMap (·.1) = ks := by rfl)
    (hpl : ((backTo pos (starEach [] X.env)).any (·.1) || (backToKw pos (keywordEach kws X.env)).any (·.1.isNone)) = false := by rfl)
    (ht : eval (.Call (.Attribute o m apos) [] kws pos) X.env = (do
      let ov ← eval o X.env
      standAt apos.atName
      let (f, first) ← holding [ov] (getMethod ov m pl)
      callWith pos f first (backTo pos (starEach [] X.env)) (backToKw pos (keywordEach kws X.env))) := by rfl) :
    PE X (.Call (.Attribute o m apos) [] kws pos) (tMethKS C m n ks.length sp gV E ta tNil tk) := by
  refine ⟨fun pins s σ H Q I h => ?_⟩
  refine PySem.W.methodCall_KW (pl := pl) (thn (he.run pins s σ H _ I h) fun u s1 ⟨x, H1, I1, rx, a, dx, fs, ex, ea, l, q⟩ => ?_) ht
  subst ex
  obtain rfl : u = Value.ref a := rx
  refine getmeth_ok I1 ea c hm l ?_
  refine PySem.W.callWith_KW0 (first := [.ref a]) (h₀ := X.base) I.ok.mod.kin hm.kp hall ?_ hpl
  refine thn (hkw.run pos pins s1 σ H1 _ I1 q) fun ws s3 ⟨zs, H3, I3, rz, l1, l2, q3⟩ => ⟨I3.kIn, ?_⟩
  rw [hks]
  exact run_fnNS (us := [.ref a]) (vs := [.ref a]) F hr hb (hx σ) I3 (.cons rfl .nil) rz l1 l2 q3
end

theorem pss_eq {X : Cx} {b : List Stmt} {t t' : TS} (h : PSs X b t) (e : t = t') : PSs X b t' := e ▸ h
/-! readings -/
section
variable {K : PySem.W.Frag} {C a dx : Addr} {σ : L2.St} {H : Hp} {Q : VK} {nx bk ct : L2.St → Hp → Prop} {rt : VK} {te to : TE} {t tk : TA} {sp : Sp} {E : L2.St → XK} {W Wout : WX} {fs : List (Str × V)} {f m : Str} {n j i : Nat} {gV : List V → List V → List V} {cls c : Value} {d : Option Addr} {v : V} {tb : WX → TS}
  {ts : Addr → Value → Option Addr → TS} {l : List (Value × (Addr → Value → Option Addr → TS))}
theorem g_try (h : tb (wManyA K Wout i ⟨nx, rt, bk, ct⟩ l) ⟨nx, rt, bk, ct⟩ σ H) : tTryA K Wout i l tb ⟨nx, rt, bk, ct⟩ σ H := h
theorem g_methS (h : tMeth C m sp [] (E σ) te t σ H Q) : tMethS C m sp E te t σ H Q := h
theorem g_methKS (h : tMethK C m n j sp gV (E σ) te t tk σ H Q) : tMethKS C m n j sp gV E te t tk σ H Q := h
theorem g_callS (h : t σ H fun vs H1 => sp vs H1 Q (E σ)) : tCallS sp E t σ H Q := h
theorem we_at (h : W cls d σ H) : WE W σ cls d H := h
theorem wm_yes (e : PySem.W.exmOne K cls c = some true) (h : ∀ a, H a = none → ts a cls d ⟨fun σ' H' => nx (σ'.set i none) H', rt, fun σ' H' => bk (σ'.set i none) H', fun σ' H' => ct (σ'.set i none) H'⟩ (σ.set i (some (.ref a))) H) : wManyA K Wout i ⟨nx, rt, bk, ct⟩ ((c, ts) :: l) cls d σ H :=
  ⟨true, e, fun _ => h, fun z => Bool.noConfusion z⟩
theorem wm_no {D : Ends} (e : PySem.W.exmOne K cls c = some false) (h : wManyA K Wout i D l cls d σ H) : wManyA K Wout i D ((c, ts) :: l) cls d σ H := ⟨false, e, fun z => Bool.noConfusion z, fun _ => h⟩
def XdR (K : PySem.W.Frag) (a : Addr) (cls : Value) (d : Option Addr) (f : Str) (x : V) (H : Hp) (Q : VK) : Prop := ∃ (C dd : Addr) (fs : List (Str × V)) (v : V), x = .ref a ∧ cls = .ref C ∧ Erc K C ∧ PySem.W.findIn K (.ref C) f = some none ∧ d = some dd ∧ H dd = some (.xd fs) ∧ fs.lookup f = some v ∧ Q v H
theorem g_xd (h : te σ H fun x H1 => XdR K a cls d f x H1 Q) : tXd K a cls d f te σ H Q := h
theorem xd_at {dd : Addr} (hd : H dd = some (.xd fs)) (T : Erc K C) (hn : PySem.W.findIn K (.ref C) f = some none) (hl : fs.lookup f = some v) (h : Q v H) : XdR K a (.ref C) (some dd) f (.ref a) H Q := ⟨C, dd, fs, v, rfl, rfl, T, hn, rfl, hd, hl, h⟩
theorem is_ty {dd : Addr} {T : String} {b : Bool} (hd : H dd = some (.xd fs)) (e : Erc K C) (k : PySem.W.kitOne K (.ref C) (.type T) = some b) (h : Q (.bl b) H) : rIsD K a (.ref C) (some dd) [.ref a, .ty T] H Q :=
  ⟨C, dd, fs, _, _, b, rfl, rfl, hd, e, rfl, fun u r => r, k, h⟩
theorem is_ref {dd B : Addr} {b : Bool} (hd : H dd = some (.xd fs)) (e : Erc K C) (k : PySem.W.kitOne K (.ref C) (.ref B) = some b) (h : Q (.bl b) H) : rIsD K a (.ref C) (some dd) [.ref a, .ref B] H Q :=
  ⟨C, dd, fs, _, _, b, rfl, rfl, hd, e, rfl, fun u r => r, k, h⟩
/-- a made error -/
def MkOR (C : Addr) (sp : Sp) (vs : List V) (H1 : Hp) (Q : XK) : Prop := vs.length ≤ 1000 ∧ ∀ a, H1 a = none → sp (.ref a :: vs) (upd H1 a (exo a C none)) (fun v H2 => v = .non ∧ ∃ (d : Addr) (fs : List (Str × V)), H2 a = some (exo a C (some d)) ∧ H2 d = some (exd d fs) ∧ H1 d = none ∧ Q (.ref C) (some d) (upd (del H2 a) d (.xd fs))) (fun _ _ _ => False)
def spErr (K : PySem.W.Frag) (f : Str) : Sp := fun vs H Q _ => ∃ (a C : Addr) (v : V), vs = [.ref a, v] ∧ H a = some (exo a C none) ∧ OexC K C ∧ PySem.W.findIn K (.ref C) f = some none ∧ ∀ dx, H dx = none → dx ≠ a → Q .non (upd (upd H dx (exd dx [(f, v)])) a (exo a C (some dx)))
theorem err_at (T : Erc K C) (hn : PySem.W.findIn K (.ref C) f = some none) {Q : XK} (h : ∀ d H', Fr H d → Same H H' → H' d = some (.xd [(f, v)]) → Q (.ref C) (some d) H') : MkOR C (spErr K f) [v] H Q := by
  refine ⟨by simp, fun a ha => ⟨a, C, v, rfl, upd_same, T.o, hn, fun dx hdx hne => ⟨rfl, dx, _, upd_same, (upd_ne hne).trans upd_same, ?_, ?_⟩⟩⟩
  · rwa [upd_ne hne] at hdx
  · rw [upd_ne hne] at hdx
    refine h dx _ ⟨hdx⟩ (fun b o e => ?_) upd_same
    have n1 : b ≠ dx := ne_of_none e hdx
    have n2 : b ≠ a := ne_of_none e ha
    rw [upd_ne n1, del_ne n2, upd_ne n2, upd_ne n1, upd_ne n2]
    exact e
theorem err_len (h : spErr K f vs H Q E0) : vs.length = 2 := by
  obtain ⟨a, C, v, rfl, _⟩ := h
  rfl
theorem g_raise {Q : XK} (h : t σ H fun vs H1 => MkOR C sp vs H1 Q) : tMkO C sp [] t σ H Q := by
  have e : (fun (vs : List V) (H1 : Hp) => MkOR C sp vs H1 Q) = fun vs H1 => vs.length ≤ 1000 ∧ ∀ a, H1 a = none → sp (.ref a :: (vs ++ [])) (upd H1 a (exo a C none)) (fun v H2 => v = .non ∧ ∃ (d : Addr) (fs : List (Str × V)), H2 a = some (exo a C (some d)) ∧ H2 d = some (exd d fs) ∧ H1 d = none ∧ Q (.ref C) (some d) (upd (del H2 a) d (.xd fs))) (fun _ _ _ => False) := by
    funext vs H1; simp only [List.append_nil]; rfl
  rw [e] at h
  exact h
end
/-! tuples, comprehended; data that differ -/
section
variable {K : PySem.W.Frag} {a : Addr} {σ : L2.St} {H : Hp} {Q : VK} {xs : List V} {tl te : TE} {g : TG} {tt : TT} {vs : List Nat} {x y : V}
def LcU (K : PySem.W.Frag) (g : TG) (tt : TT) (te : TE) (vs : List Nat) (σ : L2.St) (x : V) (H1 : Hp) (Q : VK) : Prop := ∃ a, x = .ref a ∧ (∃ xs, SqT K H1 a xs) ∧ ∀ D, H1 D = none → ∃ W : Nat → Nat → Hp → Prop, (∃ m, W 0 m (upd H1 D (.lst []))) ∧ ∀ i m H, W i m H →
  ((Itt K a).stop i H ∧ Q (.ref D) H) ∨ ((Itt K a).go i H ∧ ∃ Nx : Hp → Prop, (∀ H', Nx H' → ∃ m', m' < m ∧ W (i + 1) m' H') ∧ ∀ x H', (Itt K a).yld i H x H' → g x (wipe σ vs) H' fun σ2 H2 => wipe σ2 vs = wipe σ vs ∧ tt σ2 H2 fun b H3 =>
    if b = true then te σ2 H3 fun y H4 => ∃ acc, H4 D = some (.lst acc) ∧ acc.length < sizeLine ∧ Nx (upd H4 D (.lst (acc ++ [y]))) else Nx H3)
theorem g_lcu (h : tl σ H fun x H1 => LcU K g tt te vs σ x H1 Q) : tLc (iTup K tl) g tt te vs σ H Q := h
theorem lcu_fun (f : V → Option V) (h1 : H a = some (.tup xs)) (hz : xs.length ≤ 100000)
    (hs : ∀ x ∈ xs, ∀ H1, Same H H1 → ∀ R : Option V → Hp → Prop, (∀ H2, Same H1 H2 → R (f x) H2) → LcT g tt te vs σ x H1 R)
    (k : ∀ D H', Fr H D → Same H H' → H' D = some (.lst (xs.filterMap f)) → Q (.ref D) H') : LcU K g tt te vs σ (.ref a) H Q := by
  refine ⟨a, rfl, ⟨xs, SqT.of h1⟩, fun D hD => lc_tup (xs := xs) (fun i H' => i ≤ xs.length ∧ Same H H' ∧ H' D = some (.lst ((xs.take i).filterMap f))) ⟨Nat.zero_le _, same_upd hD, upd_same⟩ (fun i H' _ q => SqT.of (q.2.1 _ _ h1)) ?_ ?_⟩
  · rintro i x H1 hx ⟨hi, sH, eD⟩
    have hlt : i < xs.length := (List.getElem?_eq_some_iff.mp hx).1
    refine hs x (List.mem_of_getElem? hx) H1 sH (fun o H4 => match o with
      | some y => ∃ acc, H4 D = some (.lst acc) ∧ acc.length < sizeLine ∧ (i + 1 ≤ xs.length ∧ Same H (upd H4 D (.lst (acc ++ [y]))) ∧ (upd H4 D (.lst (acc ++ [y]))) D = some (.lst ((xs.take (i + 1)).filterMap f)))
      | none => i + 1 ≤ xs.length ∧ Same H H4 ∧ H4 D = some (.lst ((xs.take (i + 1)).filterMap f))) fun H2 s2 => ?_
    have tk := take_fm (f := f) hx
    cases e : f x with
    | none =>
      rw [e] at tk
      exact ⟨hlt, sH.trans s2, by rw [tk, List.append_nil]; exact s2 _ _ eD⟩
    | some y =>
      rw [e] at tk
      refine ⟨_, s2 _ _ eD, ?_, hlt, fun b o q => ?_, by rw [upd_same, tk]⟩
      · have l1 := fm_len (f := f) (xs.take i)
        rw [List.length_take] at l1
        exact Nat.lt_of_le_of_lt (by omega : _ ≤ 100000) (by decide)
      · rw [upd_ne (ne_of_none q hD)]
        exact s2 _ _ (sH _ _ q)
  · rintro H1 ⟨_, sH, eD⟩
    rw [List.take_length] at eD
    exact k D H1 ⟨hD⟩ sH eD
theorem o_ned {d : PyData} (h1 : Dp K H x d) (h2 : Dp K H y d) (hs : SeqAt.shaped d = true) (h : Q (.bl false) H) : rNeD K x y H Q :=
  ⟨d, d, h1, h2, hs, hs, by rw [SeqAt.eqv_refl d (SeqAt.canLay_of_shaped hs)]; exact h⟩
end
/-! isinstance and clauses, by what the top tells -/
section
variable {K : PySem.W.Frag} {A B : Addr}
theorem kit_no (hd : PySem.W.hasDictIn K B = true) (ht : PySem.W.typeIn K (.ref B) = some (.type "type")) (hs : PySem.W.subIn K (.ref A) (.ref B) = some false) (hr : PySem.W.subIn K (.ref A) (.ref A) = some true) : PySem.W.kitOne K (.ref A) (.ref B) = some false := by
  obtain ⟨cd, hc, _⟩ := PySem.W.any_some hd
  have ne : ¬ ((Value.ref A == Value.ref B) = true) := fun z => by
    have e : A = B := Value.ref.inj (beq_iff_eq.mp z)
    subst e
    rw [hr] at hs
    cases hs
  have e2 : ((PySem.W.clsIn K B).isSome && PySem.W.typeIn K (.ref B) == some (.type "type")) = true := by rw [hc, ht] <;> rfl
  unfold PySem.W.kitOne
  rw [if_neg ne]
  show (if ((PySem.W.clsIn K B).isSome && PySem.W.typeIn K (.ref B) == some (.type "type")) = true then PySem.W.subIn K (.ref A) (.ref B) else none) = some false
  rw [if_pos e2]
  exact hs
theorem kit_ve (hs : PySem.W.subIn K (.ref A) (.type "ValueError") = some true) : PySem.W.kitOne K (.ref A) (.type "ValueError") = some true := by
  have ne : ¬ ((Value.ref A == Value.type "ValueError") = true) := fun z => by
    have e := beq_iff_eq.mp z
    cases e
  unfold PySem.W.kitOne
  rw [if_neg ne]
  show (if PySem.W.kitMeta "ValueError" = true then PySem.W.subIn K (.ref A) (.type "ValueError") else none) = some true
  rw [if_pos (by decide +kernel)]
  exact hs
end
end L3


namespace Law
open PySem L2 L3 PyProof.Rows
/-! ### tactics -/
-- H a = some ?o
local macro_rules | `(tactic| show "hp") => `(tactic| first
  | assumption
  | (((with_reducible refine' tr_same ?s1 ?nxt); (case s1 => (assumption)); (case' nxt => skip)); show "hp")
  | (((with_reducible refine' tr_but ?s1 ?n ?h); (case s1 => (assumption))); (case h => show "hp"); (case n => show "ne")))
-- a ≠ p
local macro_rules | `(tactic| show "ne") => `(tactic| first
  | assumption
  | ((with_reducible refine Ne.symm ?_); assumption)
  | ((with_reducible refine' ne_new ?s1 ?h); (case s1 => assumption); (case h => show "hp"))
  | ((with_reducible refine' ne_new' ?s1 ?h); (case s1 => assumption); (case h => show "hp")))
-- Sz ?n i
local macro_rules | `(tactic| show "sz") => `(tactic| first
  | assumption
  | ((with_reducible refine' Sz.mul ?s1 ?s2); (case s1 => (show "sz")); (case s2 => (show "sz")))
  | ((with_reducible refine' Sz.add ?s1 ?s2); (case s1 => (show "sz")); (case s2 => (show "sz")))
  | ((with_reducible refine' Sz.sub ?s1 ?s2); (case s1 => (show "sz")); (case s2 => (show "sz")))
  | ((with_reducible refine' Sz.neg ?s1); (case s1 => (show "sz")))
  | ((with_reducible refine' Sz.mod ?s1 ?s2); (case s1 => (omega)); (case s2 => (show "sz")))
  | ((with_reducible refine' Sz.div ?s1 ?s2 ?s3); (case s1 => (omega)); (case s2 => (omega)); (case s3 => (show "sz")))
  | ((with_reducible refine' (Sz.mk ?s1 : Sz 300 _)); (case s1 => (omega))))
local macro_rules | `(tactic| show "mulok") => `(tactic| first
  | assumption
  | ((with_reducible refine mul_okl ?_); omega)
  | ((with_reducible refine mul_okr ?_); omega)
  | ((with_reducible refine' mul_ok ?s1 ?s2 ?s3); (case s1 => (show "sz")); (case s2 => (show "sz")); (case s3 => (decide))))
local macro_rules | `(tactic| show "divok") => `(tactic| first
  | assumption
  | ((with_reducible refine' div_ok ?s1 ?s2 ?s3); (case s1 => (omega)); (case s2 => (show "sz")); (case s3 => (decide))))
-- SqL K H a ?xs
local macro_rules | `(tactic| show "hq") => `(tactic| first
  | assumption
  | ((with_reducible refine' SqL.of ?s1); (case s1 => (show "hp")))
  | (((with_reducible refine' Same.seq ?s1 ?nxt); (case s1 => (assumption)); (case' nxt => skip)); show "hq"))
local macro_rules | `(tactic| show "flen") => `(tactic| first | (show (0 : Nat) < 1000; decide) | (rw [← Nat.succ_le_iff]; exact Nat.le_of_ble_eq_true rfl) | ((with_reducible refine' Nat.lt_of_le_of_lt (length_putF _ _ _) ?s1); (case s1 => (show "flen2"))))
local macro_rules | `(tactic| show "flen2") => `(tactic| first | (show _ + 1 < 1000; simp only [List.length_nil]; omega) | ((with_reducible refine Nat.lt_of_le_of_lt (Nat.succ_le_succ (length_putF _ _ _)) ?_); simp only [List.length_nil]; omega) | ((with_reducible refine Nat.lt_of_le_of_lt (Nat.succ_le_succ (Nat.le_trans (length_putF _ _ _) (Nat.succ_le_succ (length_putF _ _ _)))) ?_); simp only [List.length_nil]; omega))
local macro_rules | `(tactic| show "len") => `(tactic| first
  | exact Nat.le_of_ble_eq_true rfl
  | (simp only [List.length_append, List.length_cons, List.length_nil, List.length_map] at *; omega)
  | omega)
-- a condition that the facts decide
local macro_rules | `(tactic| show "yes") => `(tactic| first | assumption | rfl | omega | exact ⟨rfl, rfl, rfl⟩)
local macro_rules | `(tactic| show "no") => `(tactic| first | assumption | omega | (intro q; cases q; done))
local macro_rules | `(tactic| show "if") => `(tactic| first
  | (with_reducible refine ifs_T ?_)
  | (with_reducible refine ifs_F ?_)
  | ((with_reducible refine ifs_not ?_); show "if")
  | ((with_reducible refine' ifs_y ?s1 ?nxt); (case s1 => (show "yes")); (case' nxt => skip))
  | ((with_reducible refine' ifs_n ?s1 ?nxt); (case s1 => (show "no")); (case' nxt => skip)))
local macro_rules | `(tactic| show "andr") => `(tactic| first
  | (with_reducible refine and_T ?_)
  | (with_reducible refine and_F ?_)
  | ((with_reducible refine' and_y ?s1 ?nxt); (case s1 => (show "yes")); (case' nxt => skip))
  | ((with_reducible refine' and_n ?s1 ?nxt); (case s1 => (show "no")); (case' nxt => skip))
  | ((with_reducible refine' and_ny ?s1 ?nxt); (case s1 => (show "yes")); (case' nxt => skip))
  | ((with_reducible refine' and_nn ?s1 ?nxt); (case s1 => (show "no")); (case' nxt => skip)))
local macro_rules | `(tactic| show "orr") => `(tactic| first
  | (with_reducible refine or_T ?_)
  | (with_reducible refine or_F ?_)
  | ((with_reducible refine' or_y ?s1 ?nxt); (case s1 => (show "yes")); (case' nxt => skip))
  | ((with_reducible refine' or_n ?s1 ?nxt); (case s1 => (show "no")); (case' nxt => skip))
  | ((with_reducible refine' or_ny ?s1 ?nxt); (case s1 => (show "yes")); (case' nxt => skip))
  | ((with_reducible refine' or_nn ?s1 ?nxt); (case s1 => (show "no")); (case' nxt => skip)))
local macro_rules | `(tactic| show "notr") => `(tactic| first
  | (with_reducible refine not_T ?_)
  | (with_reducible refine not_F ?_)
  | ((with_reducible refine' not_y ?s1 ?nxt); (case s1 => (show "yes")); (case' nxt => skip))
  | ((with_reducible refine' not_n ?s1 ?nxt); (case s1 => (show "no")); (case' nxt => skip))
  | ((with_reducible refine' not_ny ?s1 ?nxt); (case s1 => (show "yes")); (case' nxt => skip))
  | ((with_reducible refine' not_nn ?s1 ?nxt); (case s1 => (show "no")); (case' nxt => skip))
  | (with_reducible refine not_b ?_))
local macro_rules | `(tactic| show "alloc") => `(tactic| (first
  | ((with_reducible refine' al_l ?s1 ?nxt); (case s1 => (show "len")); (case' nxt => skip))
  | ((with_reducible refine' al_t ?s1 ?nxt); (case s1 => (show "len")); (case' nxt => skip))); intro _ _ _ _ _)
local macro_rules | `(tactic| show "ints") => `(tactic| first | assumption | exact Ints.of _ | exact Ints.nil | (apply Ints.cons; show "ints"))
local macro_rules | `(tactic| show "andv") => `(tactic| first
  | (with_reducible refine andv_T ?_)
  | (with_reducible refine andv_F ?_)
  | ((with_reducible refine' andv_y ?s1 ?nxt); (case s1 => (show "yes")); (case' nxt => skip))
  | ((with_reducible refine' andv_n ?s1 ?nxt); (case s1 => (show "no")); (case' nxt => skip))
  | ((with_reducible refine' andv_ny ?s1 ?nxt); (case s1 => (show "yes")); (case' nxt => skip))
  | ((with_reducible refine' andv_nn ?s1 ?nxt); (case s1 => (show "no")); (case' nxt => skip))
  | (with_reducible refine orv_T ?_)
  | (with_reducible refine orv_F ?_)
  | ((with_reducible refine' orv_y ?s1 ?nxt); (case s1 => (show "yes")); (case' nxt => skip))
  | ((with_reducible refine' orv_n ?s1 ?nxt); (case s1 => (show "no")); (case' nxt => skip))
  | ((with_reducible refine' orv_ny ?s1 ?nxt); (case s1 => (show "yes")); (case' nxt => skip))
  | ((with_reducible refine' orv_nn ?s1 ?nxt); (case s1 => (show "no")); (case' nxt => skip))
  | (with_reducible refine notv_T ?_)
  | (with_reducible refine notv_F ?_)
  | ((with_reducible refine' notv_y ?s1 ?nxt); (case s1 => (show "yes")); (case' nxt => skip))
  | ((with_reducible refine' notv_n ?s1 ?nxt); (case s1 => (show "no")); (case' nxt => skip))
  | (with_reducible refine notv_b ?_)
  | (with_reducible refine nott_bl ?_)
  | (with_reducible refine ife_T ?_)
  | (with_reducible refine ife_F ?_)
  | ((with_reducible refine' ife_y ?s1 ?nxt); (case s1 => (show "yes")); (case' nxt => skip))
  | ((with_reducible refine' ife_n ?s1 ?nxt); (case s1 => (show "no")); (case' nxt => skip))
  | ((with_reducible refine' ife_ny ?s1 ?nxt); (case s1 => (show "yes")); (case' nxt => skip))
  | ((with_reducible refine' ife_nn ?s1 ?nxt); (case s1 => (show "no")); (case' nxt => skip))
  | (with_reducible refine lce_T ?_)
  | (with_reducible refine lce_F ?_)
  | ((with_reducible refine' lce_y ?s1 ?nxt); (case s1 => (show "yes")); (case' nxt => skip))
  | ((with_reducible refine' lce_n ?s1 ?nxt); (case s1 => (show "no")); (case' nxt => skip))
  | ((with_reducible refine' lce_ny ?s1 ?nxt); (case s1 => (show "yes")); (case' nxt => skip))
  | ((with_reducible refine' lce_nn ?s1 ?nxt); (case s1 => (show "no")); (case' nxt => skip)))
local macro_rules | `(tactic| show "lct") => `(tactic| first
  | refine lct_0 ?_ | refine lct_1 ?_ | refine lct_2 ?_ | refine lct_3 ?_ | refine lct_4 ?_ | refine lct_5 ?_ | refine lct_6 ?_ | refine lct_7 ?_ | refine lct_8 ?_ | refine lct_9 ?_ | refine lct_10 ?_
  | refine lct_11 ?_ | refine lct_12 ?_ | refine lct_13 ?_ | refine lct_14 ?_ | refine lct_15 ?_ | refine lct_16 ?_ | refine lct_17 ?_ | refine lct_18 ?_ | refine lct_19 ?_ | refine lct_20 ?_)
-- an operation on values
local macro_rules | `(tactic| show "op") => `(tactic| first
  | (with_reducible refine o_add ?_)
  | (with_reducible refine o_sub ?_)
  | ((with_reducible refine' o_mul ?s1 ?nxt); (case s1 => (show "mulok")); (case' nxt => skip))
  | ((with_reducible refine' o_mod ?s1 ?nxt); (case s1 => (show "yes")); (case' nxt => skip))
  | ((with_reducible refine' o_div ?s1 ?nxt); (case s1 => (show "divok")); (case' nxt => skip))
  | (with_reducible refine o_lt ?_)
  | (with_reducible refine o_le ?_)
  | (with_reducible refine o_gt ?_)
  | (with_reducible refine o_ge ?_)
  | (with_reducible refine o_eqI ?_)
  | (with_reducible refine o_neI ?_)
  | (with_reducible refine o_isN ?_)
  | (with_reducible refine o_notN ?_)
  | ((with_reducible refine' o_eql ?s1 ?s2 ?s3 ?s4 ?nxt); (case s1 => (show "hp")); (case s2 => (show "hp")); (case s3 => (show "ints")); (case s4 => (show "ints")); (case' nxt => skip))
  | ((with_reducible refine' o_nel ?s1 ?s2 ?s3 ?s4 ?nxt); (case s1 => (show "hp")); (case s2 => (show "hp")); (case s3 => (show "ints")); (case s4 => (show "ints")); (case' nxt => skip))
  | ((with_reducible refine' o_eqt ?s1 ?s2 ?s3 ?s4 ?nxt); (case s1 => (show "hp")); (case s2 => (show "hp")); (case s3 => (show "ints")); (case s4 => (show "ints")); (case' nxt => skip))
  | ((with_reducible refine' o_net ?s1 ?s2 ?s3 ?s4 ?nxt); (case s1 => (show "hp")); (case s2 => (show "hp")); (case s3 => (show "ints")); (case s4 => (show "ints")); (case' nxt => skip))
  | (((with_reducible refine' o_cat ?s1 ?s2 ?s3 ?nxt); (case s1 => (show "hp")); (case s2 => (show "hp")); (case s3 => (show "len")); (case' nxt => skip)); intro _ _ _ _ _)
  | (with_reducible refine o_u ?_)
  | ((with_reducible refine' w_own2 ?s1 ?s2 ?nxt); (case s1 => (show "hp")); (case s2 => (show "hp")); (case' nxt => skip))
  | ((with_reducible refine' w_ownne ?s1 ?s2 ?nxt); (case s1 => (show "hp")); (case s2 => (show "hp")); (case' nxt => skip))
  | ((with_reducible refine' w_ownin ?s1 ?nxt); (case s1 => (show "hp")); (case' nxt => skip))
  | ((with_reducible refine' w_own1 ?s1 ?nxt); (case s1 => (show "hp")); (case' nxt => skip))
  | (with_reducible refine w_b0 ?_)
  | (with_reducible refine w_b1 ?_)
  | ((with_reducible refine o_or1 ?_); show "op")
  | ((with_reducible refine o_or2 ?_); show "op"))
local macro_rules | `(tactic| show "var") => `(tactic| first
  | (with_reducible refine gv_0 ?_) | (with_reducible refine gv_1 ?_) | (with_reducible refine gv_2 ?_) | (with_reducible refine gv_3 ?_) | (with_reducible refine gv_4 ?_) | (with_reducible refine gv_5 ?_) | (with_reducible refine gv_6 ?_) | (with_reducible refine gv_7 ?_) | (with_reducible refine gv_8 ?_) | (with_reducible refine gv_9 ?_) | (with_reducible refine gv_10 ?_)
  | (with_reducible refine gv_11 ?_) | (with_reducible refine gv_12 ?_) | (with_reducible refine gv_13 ?_) | (with_reducible refine gv_14 ?_) | (with_reducible refine gv_15 ?_) | (with_reducible refine gv_16 ?_) | (with_reducible refine gv_17 ?_) | (with_reducible refine gv_18 ?_) | (with_reducible refine gv_19 ?_) | (with_reducible refine gv_20 ?_))
local macro_rules | `(tactic| show "nam") => `(tactic| first
  | (with_reducible refine gn_0 ?_) | (with_reducible refine gn_1 ?_) | (with_reducible refine gn_2 ?_) | (with_reducible refine gn_3 ?_) | (with_reducible refine gn_4 ?_) | (with_reducible refine gn_5 ?_) | (with_reducible refine gn_6 ?_) | (with_reducible refine gn_7 ?_) | (with_reducible refine gn_8 ?_) | (with_reducible refine gn_9 ?_) | (with_reducible refine gn_10 ?_)
  | (with_reducible refine gn_11 ?_) | (with_reducible refine gn_12 ?_) | (with_reducible refine gn_13 ?_) | (with_reducible refine gn_14 ?_) | (with_reducible refine gn_15 ?_) | (with_reducible refine gn_16 ?_) | (with_reducible refine gn_17 ?_) | (with_reducible refine gn_18 ?_) | (with_reducible refine gn_19 ?_) | (with_reducible refine gn_20 ?_))
-- one step
local macro_rules | `(tactic| show "step") => `(tactic| first
  | show "var"
  | (with_reducible refine g_c ?_)
  | (with_reducible refine g_op ?_)
  | (with_reducible refine g_cons ?_)
  | (with_reducible refine g_nil ?_)
  | (with_reducible refine g_seq ?_)
  | (with_reducible refine g_asg ?_)
  | show "nam"
  | (with_reducible refine g_ret ?_)
  | (with_reducible refine g_next ?_)
  | (with_reducible refine g_drop ?_)
  | (with_reducible refine g_ifs ?_)
  | (with_reducible refine g_test ?_)
  | (with_reducible refine g_tb ?_)
  | (with_reducible refine g_bl ?_)
  | (with_reducible refine g_ttr ?_)
  | (with_reducible refine tru_bl ?_)
  | (with_reducible refine tru_int ?_)
  | (with_reducible refine tru_non ?_)
  | (with_reducible refine g_tand ?_)
  | (with_reducible refine g_tor ?_)
  | (with_reducible refine g_tnot ?_)
  | (with_reducible refine g_un ?_)
  | (with_reducible refine g_fld ?_)
  | (with_reducible refine g_prop ?_)
  | (with_reducible refine g_lst ?_)
  | (with_reducible refine g_tup ?_)
  | (with_reducible refine g_call ?_)
  | (with_reducible refine g_meth ?_)
  | (with_reducible refine g_make ?_)
  | (with_reducible refine g_cb ?_)
  | (with_reducible refine g_sfld ?_)
  | (with_reducible refine g_methK ?_)
  | (with_reducible refine g_tcallN ?_)
  | (with_reducible refine g_makeK ?_)
  | (with_reducible refine g_andv ?_)
  | (with_reducible refine g_orv ?_)
  | (with_reducible refine g_notv ?_)
  | (with_reducible refine g_nott ?_)
  | (with_reducible refine g_ife ?_)
  | (with_reducible refine g_forl ?_)
  | (with_reducible refine g_for1 ?_)
  | (with_reducible refine g_for2 ?_)
  | (with_reducible refine g_lcl ?_)
  | (with_reducible refine g_lc1 ?_)
  | (with_reducible refine g_lc2 ?_)
  | (with_reducible refine g_yes ?_)
  | show "lct"
  | (with_reducible refine g_par ?_)
  | (with_reducible refine par2 ?_)
  | (with_reducible refine g_par3 ?_)
  | (with_reducible refine par3 ?_)
  | (with_reducible refine g_bm ?_)
  | (with_reducible refine g_bm0 ?_)
  | (with_reducible refine g_retN ?_)
  | (with_reducible refine g_brk ?_)
  | (with_reducible refine g_cont ?_))
local macro_rules | `(tactic| show "kw") => `(tactic| first | exact (rfl : _ = [_]) | exact (rfl : _ = [_, _]) | exact (rfl : _ = [_, _, _]) | exact (rfl : _ = [_, _, _, _]) | exact (rfl : _ = [_, _, _, _, _]) | exact (rfl : _ = [_, _, _, _, _, _]))
-- built-ins, items
local macro_rules | `(tactic| show "bi") => `(tactic| first
  | (with_reducible refine b_int ?_)
  | (with_reducible refine b_intb ?_)
  | (with_reducible refine b_abs ?_)
  | (with_reducible refine b_max2 ?_)
  | (with_reducible refine b_min2 ?_)
  | (((with_reducible refine' b_len (n := ?n) ?s1 ?hn ?h); (case s1 => (show "hp"))); (case hn => (simp only [List.length_cons, List.length_nil, List.length_map, List.length_append]; rfl)))
  | (((with_reducible refine' b_lent (n := ?n) ?s1 ?hn ?h); (case s1 => (show "hp"))); (case hn => (simp only [List.length_cons, List.length_nil, List.length_map, List.length_append]; rfl)))
  | (((with_reducible refine' b_lenq (n := ?n) ?s1 ?hn ?h); (case s1 => (show "hq"))); (case hn => (first | (simp only [List.length_map]; rfl) | rfl)))
  | (((with_reducible refine' b_list ?s1 ?nxt); (case s1 => (show "hp")); (case' nxt => skip)); intro _ _ _ _ _)
  | (((with_reducible refine' b_listt ?s1 ?nxt); (case s1 => (show "hp")); (case' nxt => skip)); intro _ _ _ _ _)
  | ((with_reducible refine' o_powc (k := ?k) ?e ?hk ?h); (case e => (unfold CPow; omega)); (case hk => (simp only [Int.reducePow, Int.reduceToNat]; rfl)))
  | ((with_reducible refine' ix_l ?s1 ?s2 ?nxt); (case s1 => (show "hp")); (case s2 => (rfl)); (case' nxt => skip))
  | ((with_reducible refine' ix_t ?s1 ?s2 ?nxt); (case s1 => (show "hp")); (case s2 => (rfl)); (case' nxt => skip))
  | (((with_reducible refine' s_set0 ?s1 ?nxt); (case s1 => (show "hp")); (case' nxt => skip)); intro _ _ _)
  | ((with_reducible refine' f_fld ?s1 ?s2 ?s3 ?s4 ?nxt); (case s1 => (show "hp")); (case s2 => (assumption)); (case s3 => (assumption)); (case s4 => (rfl)); (case' nxt => skip))
  | (((with_reducible refine' s_fldg ?s1 ?s2 ?s3 ?s4 ?nxt); (case s1 => (show "hp")); (case s2 => (assumption)); (case s3 => (assumption)); (case s4 => (show "flen")); (case' nxt => skip)); intro _ _ _)
  | ((with_reducible refine' p_prop ?s1 ?nxt); (case s1 => (show "hp")); (case' nxt => skip))
  | ((with_reducible refine' m_meth ?s1 ?s2 ?nxt); (case s1 => (show "hp")); (case s2 => (rfl)); (case' nxt => skip))
  | ((with_reducible refine' m_methK ?s1 ?s2 ?nxt); (case s1 => (show "hp")); (case s2 => (rfl)); (case' nxt => skip))
  | ((with_reducible refine' g_callK ?s1 ?s2 ?s3 ?nxt); (case s1 => (rfl)); (case s2 => (rfl)); (case s3 => (show "kw")); (case' nxt => skip))
  | ((with_reducible refine' g_gtup ?s1 ?s2 ?nxt); (case s1 => (show "hp")); (case s2 => (rfl)); (case' nxt => skip))
  | ((with_reducible refine' bm_l ?s1 ?nxt); (case s1 => (show "hp")); (case' nxt => skip))
  | ((with_reducible refine' bm0_l ?s1 ?nxt); (case s1 => (show "hp")); (case' nxt => skip))
  | (((with_reducible refine' ap_append ?s1 ?s2 ?nxt); (case s1 => (show "hp")); (case s2 => (show "len")); (case' nxt => skip)); intro _ _ _)
  | ((with_reducible refine' isi_own ?s1 ?s2 ?s3 ?nxt); (case s1 => (show "hp")); (case s2 => (assumption)); (case s3 => (assumption)); (case' nxt => skip))
  | (with_reducible refine isi_ii ?_)
  | (with_reducible refine isi_ib ?_)
  | (with_reducible refine isi_bb ?_)
  | (with_reducible refine isi_bi ?_)
  | ((with_reducible refine' isi_ll ?s1 ?nxt); (case s1 => (show "hp")); (case' nxt => skip))
  | ((with_reducible refine' isi_tt ?s1 ?nxt); (case s1 => (show "hp")); (case' nxt => skip))
  | ((with_reducible refine g_or1 ?_); ((with_reducible refine' g_gtup ?s1 ?s2 ?nxt); (case s1 => (show "hp")); (case s2 => (rfl)); (case' nxt => skip)))
  | ((with_reducible refine g_or2 ?_); ((with_reducible refine' g_glst ?s1 ?s2 ?nxt); (case s1 => (show "hp")); (case s2 => (rfl)); (case' nxt => skip)))
  | (with_reducible refine g_gcons ?_)
  | (with_reducible refine g_gnil ?_)
  | (with_reducible refine g_gsub ?_))
local macro_rules | `(tactic| show "step2") => `(tactic| first
  | show "step"
  | show "op"
  | show "if"
  | show "andr"
  | show "orr"
  | show "notr"
  | show "andv"
  | show "alloc"
  | show "bi"
  | show "own")
local macro_rules | `(tactic| show "go") => `(tactic| repeat show "step2")
-- Same H H' , SB p H H' along the chain, from the back
local macro_rules | `(tactic| show "same") => `(tactic| first
  | assumption
  | exact Same.refl _
  | (((with_reducible refine' Same.trans ?nxt ?s1); (case s1 => (assumption)); (case' nxt => skip)); show "same"))
local macro_rules | `(tactic| show "sb") => `(tactic| first
  | assumption
  | exact SB.refl _ _
  | (((with_reducible refine' SB.trans ?nxt ?s1); (case s1 => (assumption)); (case' nxt => skip)); show "sb")
  | (((with_reducible refine' SB.trans ?nxt (SB.of ?s1)); (case s1 => (assumption)); (case' nxt => skip)); show "sb"))
local macro_rules | `(tactic| show "szf") => `(tactic| first | assumption | ((with_reducible refine' Sz.mono ?s1 ?s2); (case s1 => (show "sz")); (case s2 => (decide))))

-- Q (.bl (decide P)) H from Q (.bl true) H

-- two lists of ints are equal
local macro_rules | `(tactic| show "leq") => `(tactic| first | rfl | assumption | (simp only [List.cons.injEq, and_true, true_and]; omega) | (simp only [List.cons.injEq, and_true, true_and]; (with_reducible refine ⟨?_, ?_⟩) <;> omega))

abbrev fsR (a b d : Int) : List (Str × V) := [("_a", .int a), ("_b", .int b), ("_d", .int d)]
theorem fsR_mk (a b d : Int) : putF "_d" (.int d) (putF "_b" (.int b) (putF "_a" (.int a) [])) = fsR a b d := by
  have h1 : ¬ (("_a" : Str) = "_b") := by decide +kernel
  have h2 : ¬ (("_a" : Str) = "_d") := by decide +kernel
  have h3 : ¬ (("_b" : Str) = "_d") := by decide +kernel
  show putF "_d" (.int d) (if ("_a" : Str) = "_b" then _ else (("_a" : Str), V.int a) :: putF "_b" (.int b) []) = _
  rw [if_neg h1]
  show (if ("_a" : Str) = "_d" then _ else (("_a" : Str), V.int a) :: (if ("_b" : Str) = "_d" then _ else (("_b" : Str), V.int b) :: putF "_d" (.int d) [])) = _
  rw [if_neg h2, if_neg h3]
  rfl
theorem cells_eq0 {x y n : Int} (k : Int) (h : x = y + n * k) : x % n = y % n := by rw [h, Int.add_mul_emod_self_left]
theorem cells_eq (a b d n r c p q : Int) : (a * r + b * c + (a * p + b * q + d)) % n = (a * ((r + p) % n) + b * ((c + q) % n) + d) % n := by
  rw [Int.emod_def (r + p), Int.emod_def (c + q)]
  exact cells_eq0 (a * ((r + p) / n) + b * ((c + q) / n)) (by grind)
theorem cells_eqz (a b d n r c : Int) : (a * r + b * c + d) % n = (a * ((r + 0) % n) + b * ((c + 0) % n) + d) % n := by
  have z := cells_eq a b d n r c 0 0
  simp only [Int.mul_zero, Int.zero_add] at z
  exact z
theorem emod_congr {x y n : Int} (k : Int) (h : x = y + n * k) : x % n = y % n := by rw [h, Int.add_mul_emod_self_left]
theorem step_sign (a b d n r c p q : Int) : (a * ((r+p)%n) + b * ((c+q)%n) + d) % n = ((a*r+b*c+d)%n + (a*p+b*q)) % n := by
  rw [Int.emod_def (r+p) n, Int.emod_def (c+q) n, Int.emod_def (a*r+b*c+d) n]
  exact emod_congr ((a*r+b*c+d)/n - a*((r+p)/n) - b*((c+q)/n)) (by grind)
theorem q_at {Q : VK} {H : Hp} {p : Prop} {dP : Decidable p} {b : Bool} (h : decide p = b) (k : Q (.bl (decide p)) H) : Q (.bl b) H := h ▸ k
def rowV (a b d : Int) (n i : Nat) : List V := (List.range n).map fun (j : Nat) => V.int ((a * (i : Int) + b * (j : Int) + d) % (n : Int))
theorem rowV_at {a b d : Int} {n i j : Nat} (h : j < n) : (rowV a b d n i)[j]? = some (V.int ((a * (i : Int) + b * (j : Int) + d) % (n : Int))) := by
  unfold rowV
  rw [List.getElem?_map, List.getElem?_range h]
  rfl
def rowF (a b d : Int) (n i : Int) : V → Option V := fun v => match v with | .int j => some (.int ((a * i + b * j + d) % n)) | _ => none
theorem rowF_eq (a b d : Int) (n : Int) (i : Nat) (h : 0 ≤ n) : (rngV 0 n.toNat).filterMap (rowF a b d n i) = rowV a b d n.toNat i := by
  unfold rngV rowV
  rw [List.filterMap_map]
  have e : (n.toNat : Int) = n := Int.toNat_of_nonneg h
  have : (rowF a b d n i ∘ fun i : Nat => V.int (0 + (i : Int))) = fun j : Nat => some (V.int ((a * (i : Int) + b * (j : Int) + d) % (n.toNat : Int))) := by
    funext j
    show some (V.int ((a * (i : Int) + b * (0 + (j : Int)) + d) % n)) = _
    rw [Int.zero_add, e]
  rw [this, List.filterMap_eq_map']
/-- the square of a rule stands at t: its rows are lists of their own, new since H -/
def SqAt (a b d : Int) (n : Nat) (t : Addr) (qs : List Addr) (H' : Hp) : Prop := qs.length = n ∧ H' t = some (.lst (qs.map V.ref)) ∧ ∀ (i : Nat) q, qs[i]? = some q → H' q = some (.lst (rowV a b d n i))

local macro_rules | `(tactic| show "step2") => `(tactic| first
  | (with_reducible refine g_try ?_)
  | (with_reducible refine g_methS ?_)
  | (with_reducible refine g_methKS ?_)
  | (with_reducible refine g_callS ?_)
  | (with_reducible refine g_raise ?_)
  | (with_reducible refine g_xd ?_)
  | ((with_reducible refine' xd_at ?s1 ?s2 ?s3 ?s4 ?nxt); (case s1 => (show "hp")); (case s2 => (assumption)); (case s3 => (assumption)); (case s4 => (rfl)); (case' nxt => skip))
  | ((with_reducible refine' is_ty ?s1 ?s2 ?s3 ?nxt); (case s1 => (show "hp")); (case s2 => (assumption)); (case s3 => (assumption)); (case' nxt => skip))
  | ((with_reducible refine' is_ref ?s1 ?s2 ?s3 ?nxt); (case s1 => (show "hp")); (case s2 => (assumption)); (case s3 => (assumption)); (case' nxt => skip)))
local macro_rules | `(tactic| show "go") => `(tactic| repeat first | show "step2" | (rw [List.set_cons_succ]; simp only [List.set_cons_succ, List.set_cons_zero]))

local macro_rules | `(tactic| show "dp") => `(tactic| first
  | exact Dp.int _
  | exact Dp.bl _
  | exact Dp.str _
  | ((with_reducible refine' Dp.lst (SqL.of ?dh) ?dl); (case dh => show "hp"); (case dl => show "dpl"))
  | ((with_reducible refine' Dp.tup (SqT.of ?dh) ?dl); (case dh => show "hp"); (case dl => show "dpl")))
local macro_rules | `(tactic| show "dpl") => `(tactic| first
  | exact DpAll.nil
  | ((with_reducible refine' DpAll.cons ?d1 ?d2); (case d1 => show "dp"); (case d2 => show "dpl")))
local macro_rules | `(tactic| show "shd") => `(tactic| (simp [SeqAt.shaped, PyData.canLay0, PyData.canLayAll0, PyData.depth, PyData.depthAll] <;> decide +kernel))
local macro_rules | `(tactic| show "step2") => `(tactic| first
  | (with_reducible refine g_lcu ?_))
local macro_rules | `(tactic| show "op") => `(tactic| first
  | ((with_reducible refine' o_eqd ?s1 ?s2 ?s3 ?nxt); (case s1 => (show "dp")); (case s2 => (show "dp")); (case s3 => (show "shd")); (case' nxt => skip))
  | ((with_reducible refine' o_ned ?s1 ?s2 ?s3 ?nxt); (case s1 => (show "dp")); (case s2 => (show "dp")); (case s3 => (show "shd")); (case' nxt => skip))
  | ((with_reducible refine o_or1 ?_); show "op")
  | ((with_reducible refine o_or2 ?_); show "op"))

inductive TupZ (H : Hp) : List V → Prop
  | nil : TupZ H []
  | cons {q : Addr} {x y : Int} {xs : List V} (h : H q = some (.tup [.int x, .int y])) (sx : Sz 9000 x) (sy : Sz 9000 y) (r : TupZ H xs) : TupZ H (.ref q :: xs)
theorem TupZ.mem {H : Hp} : ∀ {xs : List V}, TupZ H xs → ∀ v ∈ xs, ∃ q x y, v = .ref q ∧ H q = some (.tup [.int x, .int y]) ∧ Sz 9000 x ∧ Sz 9000 y
  | _, .nil => fun v h => by cases h
  | _, .cons h sx sy r => fun v hv => by
    rcases List.mem_cons.mp hv with rfl | hv
    · exact ⟨_, _, _, rfl, h, sx, sy⟩
    · exact r.mem v hv
local macro_rules | `(tactic| show "tups") => `(tactic| first
  | exact TupZ.nil
  | ((with_reducible refine' TupZ.cons ?th ?tx ?ty ?tr); (case th => show "hp"); (case tx => show "szf"); (case ty => show "szf"); (case tr => show "tups")))
/-- pairs that are no cells of the square of size n -/
inductive BadZ (n : Int) (H : Hp) : List V → Prop
  | nil : BadZ n H []
  | cons {q : Addr} {x y : Int} {xs : List V} (h : H q = some (.tup [.int x, .int y])) (sx : Sz 9000 x) (sy : Sz 9000 y) (bad : x < 0 ∨ n ≤ x ∨ y < 0 ∨ n ≤ y) (r : BadZ n H xs) : BadZ n H (.ref q :: xs)
theorem BadZ.mem {n : Int} {H : Hp} : ∀ {xs : List V}, BadZ n H xs → ∀ v ∈ xs, ∃ q x y, v = .ref q ∧ H q = some (.tup [.int x, .int y]) ∧ Sz 9000 x ∧ Sz 9000 y ∧ (x < 0 ∨ n ≤ x ∨ y < 0 ∨ n ≤ y)
  | _, .nil => fun v h => by cases h
  | _, .cons h sx sy b r => fun v hv => by
    rcases List.mem_cons.mp hv with rfl | hv
    · exact ⟨_, _, _, rfl, h, sx, sy, b⟩
    · exact r.mem v hv
local macro_rules | `(tactic| show "bads") => `(tactic| first
  | exact BadZ.nil
  | ((with_reducible refine' BadZ.cons ?th ?tx ?ty ?tb ?tr); (case th => show "hp"); (case tx => show "szf"); (case ty => show "szf"); (case tb => omega); (case tr => show "bads")))

/-! ### the text by places -/
def top (i : Nat) : Stmt := PySem.Challenge.pw_rulesquares_k18_no_such_cell.main.body.getD i (.Pass ⟨0, 0, 0, 0⟩)
abbrev s_Rule___init__ : Stmt := inClass (top 11) 0
abbrev N_Rule___init__ : List Str := ["self", "a", "b", "d"]
theorem sc_Rule___init__ : FnScope N_Rule___init__ ["self", "a", "b", "d"] (defScope s_Rule___init__) := ⟨rfl, rfl, rfl, by decide +kernel, rfl, by decide +kernel, by decide +kernel⟩
abbrev s__law_take : Stmt := top 14
abbrev N__law_take : List Str := ["pool", "many", "found"]
theorem sc__law_take : FnScope N__law_take ["pool", "many"] (defScope s__law_take) := ⟨rfl, rfl, rfl, by decide +kernel, rfl, by decide +kernel, by decide +kernel⟩
abbrev s__law_bad_place : Stmt := top 21
abbrev N__law_bad_place : List Str := ["pool", "size", "far"]
theorem sc__law_bad_place : FnScope N__law_bad_place ["pool", "size"] (defScope s__law_bad_place) := ⟨rfl, rfl, rfl, by decide +kernel, rfl, by decide +kernel, by decide +kernel⟩
abbrev s_Rule__value : Stmt := inClass (top 11) 13
abbrev N_Rule__value : List Str := ["self", "row", "column"]
theorem sc_Rule__value : FnScope N_Rule__value ["self", "row", "column"] (defScope s_Rule__value) := ⟨rfl, rfl, rfl, by decide +kernel, rfl, by decide +kernel, by decide +kernel⟩
abbrev s_SquareError___init__ : Stmt := inClass (top 2) 0
abbrev N_SquareError___init__ : List Str := ["self", "value"]
theorem sc_SquareError___init__ : FnScope N_SquareError___init__ ["self", "value"] (defScope s_SquareError___init__) := ⟨rfl, rfl, rfl, by decide +kernel, rfl, by decide +kernel, by decide +kernel⟩
abbrev s_check_cell : Stmt := top 9
abbrev N_check_cell : List Str := ["n", "row", "column"]
theorem sc_check_cell : FnScope N_check_cell ["n", "row", "column"] (defScope s_check_cell) := ⟨rfl, rfl, rfl, by decide +kernel, rfl, by decide +kernel, by decide +kernel⟩
abbrev s_check_size : Stmt := top 8
abbrev N_check_size : List Str := ["n"]
theorem sc_check_size : FnScope N_check_size ["n"] (defScope s_check_size) := ⟨rfl, rfl, rfl, by decide +kernel, rfl, by decide +kernel, by decide +kernel⟩
abbrev s_Rule_sign : Stmt := inClass (top 11) 8
abbrev N_Rule_sign : List Str := ["self", "n", "row", "column"]
theorem sc_Rule_sign : FnScope N_Rule_sign ["self", "n", "row", "column"] (defScope s_Rule_sign) := ⟨rfl, rfl, rfl, by decide +kernel, rfl, by decide +kernel, by decide +kernel⟩
abbrev s__law_sign : Stmt := top 18
abbrev N__law_sign : List Str := ["rule", "size", "r", "c", "found", "e"]
theorem sc__law_sign : FnScope N__law_sign ["rule", "size", "r", "c"] (defScope s__law_sign) := ⟨rfl, rfl, rfl, by decide +kernel, rfl, by decide +kernel, by decide +kernel⟩
abbrev s__law_whole : Stmt := top 17
abbrev N__law_whole : List Str := ["found"]
theorem sc__law_whole : FnScope N__law_whole ["found"] (defScope s__law_whole) := ⟨rfl, rfl, rfl, by decide +kernel, rfl, by decide +kernel, by decide +kernel⟩
abbrev s__law_good : Stmt := top 24
abbrev N__law_good : List Str := ["rule", "numbers", "size", "places", "x", "y", "z", "spot", "r", "c", "found"]
theorem sc__law_good : FnScope N__law_good ["rule", "numbers", "size", "places"] (defScope s__law_good) := ⟨rfl, rfl, rfl, by decide +kernel, rfl, by decide +kernel, by decide +kernel⟩
abbrev s__law_near : Stmt := top 15
abbrev N__law_near : List Str := ["pool", "most"]
theorem sc__law_near : FnScope N__law_near ["pool", "most"] (defScope s__law_near) := ⟨rfl, rfl, rfl, by decide +kernel, rfl, by decide +kernel, by decide +kernel⟩
abbrev s__law_base : Stmt := top 20
abbrev N__law_base : List Str := ["rule", "size", "r", "c", "found", "e"]
theorem sc__law_base : FnScope N__law_base ["rule", "size", "r", "c"] (defScope s__law_base) := ⟨rfl, rfl, rfl, by decide +kernel, rfl, by decide +kernel, by decide +kernel⟩
abbrev s__law_no_cell : Stmt := top 22
abbrev N__law_no_cell : List Str := ["rule", "size", "r", "c", "found", "one"]
theorem sc__law_no_cell : FnScope N__law_no_cell ["rule", "size", "r", "c"] (defScope s__law_no_cell) := ⟨rfl, rfl, rfl, by decide +kernel, rfl, by decide +kernel, by decide +kernel⟩
abbrev s_Rule_square : Stmt := inClass (top 11) 10
abbrev N_Rule_square : List Str := ["self", "n", "row", "column"]
theorem sc_Rule_square : FnScope N_Rule_square ["self", "n"] (defScope s_Rule_square) := ⟨rfl, rfl, rfl, by decide +kernel, rfl, by decide +kernel, by decide +kernel⟩
abbrev s__law_square : Stmt := top 19
abbrev N__law_square : List Str := ["rule", "size", "found", "e"]
theorem sc__law_square : FnScope N__law_square ["rule", "size"] (defScope s__law_square) := ⟨rfl, rfl, rfl, by decide +kernel, rfl, by decide +kernel, by decide +kernel⟩
abbrev s__law_no_size : Stmt := top 23
abbrev N__law_no_size : List Str := ["rule", "size", "places", "r", "c", "found"]
theorem sc__law_no_size : FnScope N__law_no_size ["rule", "size", "places"] (defScope s__law_no_size) := ⟨rfl, rfl, rfl, by decide +kernel, rfl, by decide +kernel, by decide +kernel⟩
abbrev s__law_size : Stmt := top 16
abbrev N__law_size : List Str := ["pool", "shape"]
theorem sc__law_size : FnScope N__law_size ["pool"] (defScope s__law_size) := ⟨rfl, rfl, rfl, by decide +kernel, rfl, by decide +kernel, by decide +kernel⟩
abbrev s__law_asked : Stmt := top 25
abbrev N__law_asked : List Str := ["pool", "size", "good", "far", "bad", "numbers", "rule", "less", "edges", "r", "c", "low"]
theorem sc__law_asked : FnScope N__law_asked ["pool"] (defScope s__law_asked) := ⟨rfl, rfl, rfl, by decide +kernel, rfl, by decide +kernel, by decide +kernel⟩
abbrev s__law_pool : Stmt := top 13
abbrev N__law_pool : List Str := ["script", "k", "cell", "part", "blend", "turn"]
theorem sc__law_pool : FnScope N__law_pool ["script", "k"] (defScope s__law_pool) := ⟨rfl, rfl, rfl, by decide +kernel, rfl, by decide +kernel, by decide +kernel⟩
abbrev s_law : Stmt := top 26
abbrev N_law : List Str := ["script", "k"]
theorem sc_law : FnScope N_law ["script"] (defScope s_law) := ⟨rfl, rfl, rfl, by decide +kernel, rfl, by decide +kernel, by decide +kernel⟩
/-! ### what the top has left -/
structure Txt (K : PySem.W.Frag) (mg : Str → Option Value) : Type where
  C_InvalidCell : Addr
  C_InvalidNumber : Addr
  C_InvalidSize : Addr
  C_InvalidTurn : Addr
  C_Rule : Addr
  C_SquareError : Addr
  f_Rule___init__ : Addr
  fd_Rule___init__ : FuncData
  f__law_take : Addr
  fd__law_take : FuncData
  f__law_bad_place : Addr
  fd__law_bad_place : FuncData
  f_Rule__value : Addr
  fd_Rule__value : FuncData
  f_SquareError___init__ : Addr
  fd_SquareError___init__ : FuncData
  f_check_cell : Addr
  fd_check_cell : FuncData
  f_check_size : Addr
  fd_check_size : FuncData
  f_Rule_sign : Addr
  fd_Rule_sign : FuncData
  f__law_sign : Addr
  fd__law_sign : FuncData
  f__law_whole : Addr
  fd__law_whole : FuncData
  f__law_good : Addr
  fd__law_good : FuncData
  f__law_near : Addr
  fd__law_near : FuncData
  f__law_base : Addr
  fd__law_base : FuncData
  f__law_no_cell : Addr
  fd__law_no_cell : FuncData
  f_Rule_square : Addr
  fd_Rule_square : FuncData
  f__law_square : Addr
  fd__law_square : FuncData
  f__law_no_size : Addr
  fd__law_no_size : FuncData
  f__law_size : Addr
  fd__law_size : FuncData
  f__law_asked : Addr
  fd__law_asked : FuncData
  f__law_pool : Addr
  fd__law_pool : FuncData
  f_law : Addr
  fd_law : FuncData
  gC_InvalidCell : mg "InvalidCell" = some (.ref C_InvalidCell)
  gC_InvalidNumber : mg "InvalidNumber" = some (.ref C_InvalidNumber)
  gC_InvalidSize : mg "InvalidSize" = some (.ref C_InvalidSize)
  gC_InvalidTurn : mg "InvalidTurn" = some (.ref C_InvalidTurn)
  gC_Rule : mg "Rule" = some (.ref C_Rule)
  cl_Rule : Cls K C_Rule
  mk_Rule : Mk K C_Rule f_Rule___init__
  gC_SquareError : mg "SquareError" = some (.ref C_SquareError)
  na_Rule_a : NoAttr K C_Rule "_a"
  na_Rule_b : NoAttr K C_Rule "_b"
  na_Rule_d : NoAttr K C_Rule "_d"
  F_Rule___init__ : Fun K "__init__" "Rule.__init__" s_Rule___init__ f_Rule___init__ fd_Rule___init__
  b_Rule___init__ : Binds K fd_Rule___init__ ["self", "a", "b", "d"] []
  me_Rule___init__ : Meth K C_Rule "__init__" f_Rule___init__
  F__law_take : Fun K "_law_take" "_law_take" s__law_take f__law_take fd__law_take
  b__law_take : Binds K fd__law_take ["pool", "many"] []
  g__law_take : mg "_law_take" = some (.ref f__law_take)
  F__law_bad_place : Fun K "_law_bad_place" "_law_bad_place" s__law_bad_place f__law_bad_place fd__law_bad_place
  b__law_bad_place : Binds K fd__law_bad_place ["pool", "size"] []
  g__law_bad_place : mg "_law_bad_place" = some (.ref f__law_bad_place)
  F_Rule__value : Fun K "_value" "Rule._value" s_Rule__value f_Rule__value fd_Rule__value
  b_Rule__value : Binds K fd_Rule__value ["self", "row", "column"] []
  me_Rule__value : Meth K C_Rule "_value" f_Rule__value
  F_SquareError___init__ : Fun K "__init__" "SquareError.__init__" s_SquareError___init__ f_SquareError___init__ fd_SquareError___init__
  b_SquareError___init__ : Binds K fd_SquareError___init__ ["self", "value"] []
  me_SquareError___init__ : Meth K C_SquareError "__init__" f_SquareError___init__
  F_check_cell : Fun K "check_cell" "check_cell" s_check_cell f_check_cell fd_check_cell
  b_check_cell : Binds K fd_check_cell ["n", "row", "column"] []
  g_check_cell : mg "check_cell" = some (.ref f_check_cell)
  F_check_size : Fun K "check_size" "check_size" s_check_size f_check_size fd_check_size
  b_check_size : Binds K fd_check_size ["n"] []
  g_check_size : mg "check_size" = some (.ref f_check_size)
  F_Rule_sign : Fun K "sign" "Rule.sign" s_Rule_sign f_Rule_sign fd_Rule_sign
  b_Rule_sign : Binds K fd_Rule_sign ["self", "n", "row", "column"] []
  me_Rule_sign : Meth K C_Rule "sign" f_Rule_sign
  F__law_sign : Fun K "_law_sign" "_law_sign" s__law_sign f__law_sign fd__law_sign
  b__law_sign : Binds K fd__law_sign ["rule", "size", "r", "c"] []
  g__law_sign : mg "_law_sign" = some (.ref f__law_sign)
  F__law_whole : Fun K "_law_whole" "_law_whole" s__law_whole f__law_whole fd__law_whole
  b__law_whole : Binds K fd__law_whole ["found"] []
  g__law_whole : mg "_law_whole" = some (.ref f__law_whole)
  F__law_good : Fun K "_law_good" "_law_good" s__law_good f__law_good fd__law_good
  b__law_good : Binds K fd__law_good ["rule", "numbers", "size", "places"] []
  g__law_good : mg "_law_good" = some (.ref f__law_good)
  F__law_near : Fun K "_law_near" "_law_near" s__law_near f__law_near fd__law_near
  b__law_near : Binds K fd__law_near ["pool", "most"] []
  g__law_near : mg "_law_near" = some (.ref f__law_near)
  F__law_base : Fun K "_law_base" "_law_base" s__law_base f__law_base fd__law_base
  b__law_base : Binds K fd__law_base ["rule", "size", "r", "c"] []
  g__law_base : mg "_law_base" = some (.ref f__law_base)
  F__law_no_cell : Fun K "_law_no_cell" "_law_no_cell" s__law_no_cell f__law_no_cell fd__law_no_cell
  b__law_no_cell : Binds K fd__law_no_cell ["rule", "size", "r", "c"] []
  g__law_no_cell : mg "_law_no_cell" = some (.ref f__law_no_cell)
  F_Rule_square : Fun K "square" "Rule.square" s_Rule_square f_Rule_square fd_Rule_square
  b_Rule_square : Binds K fd_Rule_square ["self", "n"] []
  me_Rule_square : Meth K C_Rule "square" f_Rule_square
  F__law_square : Fun K "_law_square" "_law_square" s__law_square f__law_square fd__law_square
  b__law_square : Binds K fd__law_square ["rule", "size"] []
  g__law_square : mg "_law_square" = some (.ref f__law_square)
  F__law_no_size : Fun K "_law_no_size" "_law_no_size" s__law_no_size f__law_no_size fd__law_no_size
  b__law_no_size : Binds K fd__law_no_size ["rule", "size", "places"] []
  g__law_no_size : mg "_law_no_size" = some (.ref f__law_no_size)
  F__law_size : Fun K "_law_size" "_law_size" s__law_size f__law_size fd__law_size
  b__law_size : Binds K fd__law_size ["pool"] []
  g__law_size : mg "_law_size" = some (.ref f__law_size)
  F__law_asked : Fun K "_law_asked" "_law_asked" s__law_asked f__law_asked fd__law_asked
  b__law_asked : Binds K fd__law_asked ["pool"] []
  g__law_asked : mg "_law_asked" = some (.ref f__law_asked)
  F__law_pool : Fun K "_law_pool" "_law_pool" s__law_pool f__law_pool fd__law_pool
  b__law_pool : Binds K fd__law_pool ["script", "k"] []
  g__law_pool : mg "_law_pool" = some (.ref f__law_pool)
  F_law : Fun K "law" "law" s_law f_law fd_law
  b_law : Binds K fd_law ["script"] []
  g_law : mg "law" = some (.ref f_law)
  z_ValueError : mg "ValueError" = none
  z_bool : mg "bool" = none
  z_int : mg "int" = none
  z_isinstance : mg "isinstance" = none
  z_len : mg "len" = none
  z_max : mg "max" = none
  z_min : mg "min" = none
  z_range : mg "range" = none
  z_tuple : mg "tuple" = none
  kb_Rule_sign_1_n_row_column : KBn K fd_Rule_sign ["self", "n", "row", "column"] 1 ["n", "row", "column"] (fun us ws => kwg [0, 1, 2] us ws) (fun vs zs => kwg [0, 1, 2] vs zs)
  er_InvalidSize : Erc K C_InvalidSize
  vn_InvalidSize : PySem.W.findIn K (.ref C_InvalidSize) "value" = some none
  ii_InvalidSize : PySem.W.findIn K (.ref C_InvalidSize) "__init__" = some (some (.ref f_SquareError___init__))
  ti_InvalidSize : PySem.W.typeIn K (.ref f_SquareError___init__) = some (.type "function")
  em_InvalidSize_InvalidNumber : PySem.W.exmOne K (.ref C_InvalidSize) (.ref C_InvalidNumber) = some false
  em_InvalidSize_InvalidTurn : PySem.W.exmOne K (.ref C_InvalidSize) (.ref C_InvalidTurn) = some false
  em_InvalidSize_InvalidSize : PySem.W.exmOne K (.ref C_InvalidSize) (.ref C_InvalidSize) = some true
  em_InvalidSize_InvalidCell : PySem.W.exmOne K (.ref C_InvalidSize) (.ref C_InvalidCell) = some false
  em_InvalidSize_SquareError : PySem.W.exmOne K (.ref C_InvalidSize) (.ref C_SquareError) = some true
  kv_InvalidSize : PySem.W.kitOne K (.ref C_InvalidSize) (.type "ValueError") = some true
  kt_InvalidSize_InvalidCell : PySem.W.kitOne K (.ref C_InvalidSize) (.ref C_InvalidCell) = some false
  er_InvalidCell : Erc K C_InvalidCell
  vn_InvalidCell : PySem.W.findIn K (.ref C_InvalidCell) "value" = some none
  ii_InvalidCell : PySem.W.findIn K (.ref C_InvalidCell) "__init__" = some (some (.ref f_SquareError___init__))
  ti_InvalidCell : PySem.W.typeIn K (.ref f_SquareError___init__) = some (.type "function")
  em_InvalidCell_InvalidNumber : PySem.W.exmOne K (.ref C_InvalidCell) (.ref C_InvalidNumber) = some false
  em_InvalidCell_InvalidTurn : PySem.W.exmOne K (.ref C_InvalidCell) (.ref C_InvalidTurn) = some false
  em_InvalidCell_InvalidSize : PySem.W.exmOne K (.ref C_InvalidCell) (.ref C_InvalidSize) = some false
  em_InvalidCell_InvalidCell : PySem.W.exmOne K (.ref C_InvalidCell) (.ref C_InvalidCell) = some true
  em_InvalidCell_SquareError : PySem.W.exmOne K (.ref C_InvalidCell) (.ref C_SquareError) = some true
  kv_InvalidCell : PySem.W.kitOne K (.ref C_InvalidCell) (.type "ValueError") = some true
  kt_InvalidCell_InvalidSize : PySem.W.kitOne K (.ref C_InvalidCell) (.ref C_InvalidSize) = some false

section
variable {P : Program} {w : World} {K : PySem.W.Frag} {mg : Str → Option Value} {base : Heap}
/-! #### Rule.__init__: 0 self, 1 a, 2 b, 3 d -/
def sp_Rule___init__ (T : Txt K mg) : Sp := fun vs H Q _ => ∃ (a b d : Int) (x dx : Addr), vs = [.ref x, .int a, .int b, .int d] ∧ H x = some (.ins T.C_Rule dx []) ∧
  ∀ H', SB x H H' → H' x = some (.ins T.C_Rule dx (fsR a b d)) → Q .non H' 
theorem len_Rule___init__ {vs H Q E} (T : Txt K mg) (h : sp_Rule___init__ T vs H Q E) : vs.length = 4 := by obtain ⟨a, b, d, x, dx, rfl, _⟩ := h; rfl

theorem use_mkRule {T : Txt K mg} {H : Hp} {Q : VK} {E : XK} {a b d : Int} (k : ∀ x dx H', Fr H x → Same H H' → H' x = some (.ins T.C_Rule dx (fsR a b d)) → Q (.ref x) H') :
  MakeR T.C_Rule (sp_Rule___init__ T) E [.int a, .int b, .int d] H Q := fun x dx h1 h2 _ => ⟨a, b, d, x, dx, rfl, upd_same, fun _ e h => mk_done h1 h2 e h k⟩
theorem use_mkRuleK {T : Txt K mg} {H : Hp} {Q : VK} {E : XK} {a b d : Int} {n j : Nat} {perm : List Nat} {vs zs : List V} (h1 : vs.length = n) (h2 : zs.length = j) (e : ∀ x, kwg perm (x :: vs) zs = [x, .int a, .int b, .int d])
  (k : ∀ x dx H', Fr H x → Same H H' → H' x = some (.ins T.C_Rule dx (fsR a b d)) → Q (.ref x) H') :
  MakeKR T.C_Rule n j (sp_Rule___init__ T) E perm vs zs H Q := ⟨h1, h2, fun x dx h1 h2 _ => ⟨a, b, d, x, dx, e _, upd_same, fun _ e h => mk_done h1 h2 e h k⟩⟩
local macro_rules | `(tactic| show "own") => `(tactic| ((with_reducible refine use_mkRule ?_); intro _ _ _ _ _ _))
local macro_rules | `(tactic| show "own") => `(tactic| (((with_reducible refine' use_mkRuleK ?s1 ?s2 ?s3 ?nxt); (case s1 => (rfl)); (case s2 => (rfl)); (case s3 => (intro _; rfl)); (case' nxt => skip)); intro _ _ _ _ _ _))
theorem ok_Rule___init__ (T : Txt K mg) : FnOk P w K mg base CX0 1 T.f_Rule___init__ T.fd_Rule___init__ ["self", "a", "b", "d"] (sp_Rule___init__ T) := by
  refine T.F_Rule___init__.ok sc_Rule___init__ (fun vs H Q E h => ?_) (fun cdv A outer s H vs Q E hr h => ?_)
  · exact len_Rule___init__ T h
  · refine ⟨_, (pss_cons (ps_fldK (K := K) rfl (pv 0) (pv 1) rfl)
    (pss_cons (ps_fldK (K := K) rfl (pv 0) (pv 2) rfl)
    (pss_one (ps_fldK (K := K) rfl (pv 0) (pv 3) rfl)))), ?_⟩
    clear hr
    obtain ⟨a, b, d, x, dx, rfl, hx, k⟩ := h
    refine st_eq (σ' := [some _, some _, some _, some _]) rfl ?_
    have hc := T.cl_Rule
    have n1 := T.na_Rule_a
    have n2 := T.na_Rule_b
    have n3 := T.na_Rule_d
    show "go"
    refine k _ ?_ (by rw [← fsR_mk]; show "hp")
    exact ((‹SB x H _›).trans ‹_›).trans ‹_›
/-! #### _law_take: 0 pool, 1 many, 2 found -/
def sp__law_take (_ : Txt K mg) : Sp := fun vs H Q _ => ∃ (p : Addr) (z m : Int), vs = [.ref p, .int m] ∧ H p = some (.lst [.int z]) ∧ 0 ≤ z ∧ 0 < m ∧ Sz 8999 m ∧
  ∀ r z' H', 0 ≤ r → r < m → 0 ≤ z' → SB p H H' → H' p = some (.lst [.int z']) → Q (.int r) H' 
theorem len__law_take {vs H Q E} (T : Txt K mg) (h : sp__law_take T vs H Q E) : vs.length = 2 := by obtain ⟨p, z, m, rfl, _⟩ := h; rfl
theorem use_take {T : Txt K mg} {H : Hp} {Q : VK} {E : XK} {p : Addr} {z m : Int} {b : Nat} (h1 : H p = some (.lst [.int z])) (h2 : 0 ≤ z) (h3 : 0 < m) (h4 : Sz b m) (h5 : b ≤ 8999)
  (k : ∀ r z' H', 0 ≤ r → r < m → 0 ≤ z' → SB p H H' → H' p = some (.lst [.int z']) → Q (.int r) H') : sp__law_take T [.ref p, .int m] H Q E := ⟨p, z, m, rfl, h1, h2, h3, h4.mono h5, k⟩
local macro_rules | `(tactic| show "own") => `(tactic| (((with_reducible refine' use_take ?s1 ?s2 ?s3 ?s4 ?s5 ?nxt); (case s1 => (show "hp")); (case s2 => (assumption)); (case s3 => (omega)); (case s4 => (show "sz")); (case s5 => (decide)); (case' nxt => skip)); intro _ _ _ _ _ _ _ _))
theorem ok__law_take (T : Txt K mg) : FnOk P w K mg base CX0 1 T.f__law_take T.fd__law_take ["pool", "many"] (sp__law_take T) := by
  refine T.F__law_take.ok sc__law_take (fun vs H Q E h => ?_) (fun cdv A outer s H vs Q E hr h => ?_)
  · exact len__law_take T h
  · refine ⟨_, (pss_cons (ps_set (i := 2) sc__law_take.nd rfl (Or.inl rfl) (pe_op op_modU (pe_callTy c_int1 (by rfl) T.z_int (by decide +kernel) (pa_cons (pe_ix (ix_seqK (K := K) rfl) (pv 0) pe_int (fun _ _ => rfl)) pa_nil)) (pv 1)))
    (pss_cons (ps_asg (pe_op op_fdivU (pe_callTy c_int1 (by rfl) T.z_int (by decide +kernel) (pa_cons (pe_ix (ix_seqK (K := K) rfl) (pv 0) pe_int (fun _ _ => rfl)) pa_nil)) (pv 1)) (pg_sub (pv 0) pe_int set_list))
    (pss_one (ps_ret (pv 2))))), ?_⟩
    clear hr
    obtain ⟨p, z, m, rfl, hp, h0, hm, hs, k⟩ := h
    refine st_eq (σ' := [some _, some _, none]) rfl ?_
    show "go"
    exact k _ _ _ (Int.emod_nonneg _ (by omega)) (Int.emod_lt_of_pos _ hm) (Int.ediv_nonneg h0 (Int.le_of_lt hm)) ‹_› ‹_›
/-! #### _law_bad_place: 0 pool, 1 size, 2 far -/
def sp__law_bad_place (T : Txt K mg) : Sp := fun vs H Q _ => ∃ (p : Addr) (z n : Int), vs = [.ref p, .int n] ∧ H p = some (.lst [.int z]) ∧ 0 ≤ z ∧ 1 ≤ n ∧ n ≤ 10 ^ 30 ∧
  ∀ x z' H', (x < 0 ∨ n ≤ x) → -(10 ^ 60) ≤ x ∧ x ≤ 10 ^ 60 → 0 ≤ z' → SB p H H' → H' p = some (.lst [.int z']) → Q (.int x) H' 
theorem len__law_bad_place {vs H Q E} (T : Txt K mg) (h : sp__law_bad_place T vs H Q E) : vs.length = 2 := by obtain ⟨p, z, n, rfl, _⟩ := h; rfl
theorem use_badp {T : Txt K mg} {H : Hp} {Q : VK} {E : XK} {p : Addr} {z n : Int} (h1 : H p = some (.lst [.int z])) (h2 : 0 ≤ z) (h3 : 1 ≤ n) (h4 : n ≤ 10 ^ 30)
  (k : ∀ x z' H', (x < 0 ∨ n ≤ x) → -(10 ^ 60) ≤ x ∧ x ≤ 10 ^ 60 → 0 ≤ z' → SB p H H' → H' p = some (.lst [.int z']) → Q (.int x) H') : sp__law_bad_place T [.ref p, .int n] H Q E := ⟨p, z, n, rfl, h1, h2, h3, h4, k⟩
local macro_rules | `(tactic| show "own") => `(tactic| (((with_reducible refine' use_badp ?s1 ?s2 ?s3 ?s4 ?nxt); (case s1 => (show "hp")); (case s2 => (assumption)); (case s3 => (omega)); (case s4 => (omega)); (case' nxt => skip)); intro _ _ _ _ _ _ _ _))
theorem ok__law_bad_place (T : Txt K mg) : FnOk P w K mg base CX0 2 T.f__law_bad_place T.fd__law_bad_place ["pool", "size"] (sp__law_bad_place T) := by
  have G__law_take : FnOk P w K mg base CX0 1 T.f__law_take T.fd__law_take ["pool", "many"] (sp__law_take T) := ok__law_take T
  refine T.F__law_bad_place.ok sc__law_bad_place (fun vs H Q E h => ?_) (fun cdv A outer s H vs Q E hr h => ?_)
  · exact len__law_bad_place T h
  · refine ⟨_, (pss_cons (ps_set (i := 2) sc__law_bad_place.nd rfl (Or.inl rfl) (pe_call G__law_take (hr.mono (by decide)) rfl T.g__law_take T.F__law_take.kp T.b__law_take .nil pass0 (pa_cons (pv 0) (pa_cons (pe_op op_powU pe_int pe_int) pa_nil))))
    (pss_one (ps_ret (pe_ix (ix_seqK (K := K) rfl) (pe_lst (pa_cons (pe_un un_neg pe_int) (pa_cons (pv 1) (pa_cons (pe_op (op_addK (K := K) rfl) (pe_op (op_addK (K := K) rfl) (pv 1) pe_int) (pv 2)) (pa_cons (pe_op op_subU (pe_un un_neg pe_int) (pv 2)) pa_nil))))) (pe_call G__law_take (hr.mono (by decide)) rfl T.g__law_take T.F__law_take.kp T.b__law_take .nil pass0 (pa_cons (pv 0) (pa_cons pe_int pa_nil))) (fun _ _ => rfl))))), ?_⟩
    clear hr
    obtain ⟨p, z, n, rfl, hp, h0, hn, hm, k⟩ := h
    refine st_eq (σ' := [some _, some _, none]) rfl ?_
    show "go"
    refine' ix_all (P := fun v => ∃ m : Int, v = .int m ∧ (m < 0 ∨ n ≤ m) ∧ -(10 ^ 60) ≤ m ∧ m ≤ 10 ^ 60) ?a ?a2 ?b ?c ?d
    case a => show "hp"
    case a2 => assumption
    case b => simp only [List.length_cons, List.length_nil]; omega
    case c =>
      intro v hv
      simp only [List.mem_cons, List.not_mem_nil, or_false] at hv
      rcases hv with rfl | rfl | rfl | rfl <;> exact ⟨_, rfl, by omega, by omega, by omega⟩
    rintro v ⟨x, rfl, m1, m2⟩
    exact k x _ _ m1 m2 (by assumption) (by show "sb") (by show "hp")
/-! #### Rule._value: 0 self, 1 row, 2 column -/
def sp_Rule__value (T : Txt K mg) : Sp := fun vs H Q _ => ∃ (r dx : Addr) (a b d x y : Int), vs = [.ref r, .int x, .int y] ∧ H r = some (.ins T.C_Rule dx (fsR a b d)) ∧ Sz 9000 a ∧ Sz 9000 b ∧ Sz 9000 x ∧ Sz 9000 y ∧ Q (.int (a * x + b * y + d)) H
theorem len_Rule__value {vs H Q E} (T : Txt K mg) (h : sp_Rule__value T vs H Q E) : vs.length = 3 := by obtain ⟨r, dx, a, b, d, x, y, rfl, _⟩ := h; rfl
theorem use_value {T : Txt K mg} {H : Hp} {Q : VK} {E : XK} {r dx : Addr} {a b d x y : Int} (h1 : H r = some (.ins T.C_Rule dx (fsR a b d))) (ha : Sz 9000 a) (hb : Sz 9000 b) (hx : Sz 9000 x) (hy : Sz 9000 y) (h : Q (.int (a * x + b * y + d)) H) :
  sp_Rule__value T [.ref r, .int x, .int y] H Q E := ⟨r, dx, a, b, d, x, y, rfl, h1, ha, hb, hx, hy, h⟩
local macro_rules | `(tactic| show "own") => `(tactic| (((with_reducible refine' use_value ?s1 ?s2 ?s3 ?s4 ?s5 ?nxt); (case s1 => (show "hp")); (case s2 => (show "szf")); (case s3 => (show "szf")); (case s4 => (show "szf")); (case s5 => (show "szf")); (case' nxt => skip))))
theorem ok_Rule__value (T : Txt K mg) : FnOk P w K mg base CX0 1 T.f_Rule__value T.fd_Rule__value ["self", "row", "column"] (sp_Rule__value T) := by
  refine T.F_Rule__value.ok sc_Rule__value (fun vs H Q E h => ?_) (fun cdv A outer s H vs Q E hr h => ?_)
  · exact len_Rule__value T h
  · refine ⟨_, (pss_one (ps_ret (pe_op (op_addK (K := K) rfl) (pe_op (op_addK (K := K) rfl) (pe_op op_mulU (pe_fldK (K := K) rfl (pv 0) rfl) (pv 1)) (pe_op op_mulU (pe_fldK (K := K) rfl (pv 0) rfl) (pv 2))) (pe_fldK (K := K) rfl (pv 0) rfl)))), ?_⟩
    clear hr
    obtain ⟨r, dx, a, b, d, x, y, rfl, hr, ha, hb, hx, hy, k⟩ := h
    refine st_eq (σ' := [some _, some _, some _]) rfl ?_
    have hc := T.cl_Rule
    have n1 := T.na_Rule_a
    have n2 := T.na_Rule_b
    have n3 := T.na_Rule_d
    show "go"
    exact k
/-! #### SquareError.__init__: 0 self, 1 value -/
def sp_SquareError___init__ (_ : Txt K mg) : Sp := spErr K "value"
theorem len_SquareError___init__ {vs H Q E} (T : Txt K mg) (h : sp_SquareError___init__ T vs H Q E) : vs.length = 2 := by obtain ⟨a, C, v, rfl, _⟩ := h; rfl
theorem use_err {T : Txt K mg} {H : Hp} {C : Addr} {v : V} {Q : XK} (e : Erc K C) (n : PySem.W.findIn K (.ref C) "value" = some none) (h : ∀ d H', Fr H d → Same H H' → H' d = some (.xd [("value", v)]) → Q (.ref C) (some d) H') : MkOR C (sp_SquareError___init__ T) [v] H Q := err_at e n h
theorem ok_SquareError___init__ (T : Txt K mg) : FnOk P w K mg base CX0 1 T.f_SquareError___init__ T.fd_SquareError___init__ ["self", "value"] (sp_SquareError___init__ T) := by
  refine T.F_SquareError___init__.ok sc_SquareError___init__ (fun vs H Q E h => ?_) (fun cdv A outer s H vs Q E hr h => ?_)
  · exact len_SquareError___init__ T h
  · refine ⟨_, (pss_one (ps_ost (pv 0) (pv 1))), ?_⟩
    clear hr
    obtain ⟨a, C, v, rfl, ha, hO, hn, k⟩ := h
    refine st_eq (σ' := [some _, some _]) rfl ?_
    exact ⟨_, rfl, _, rfl, a, C, rfl, hO, hn, .inl ⟨ha, fun dx h1 h2 => k dx h1 h2⟩⟩
/-! #### check_cell: 0 n, 1 row, 2 column -/
def sp_check_cell (T : Txt K mg) : Sp := fun vs H Q E => ∃ n x y : Int, vs = [.int n, .int x, .int y] ∧ ((x < 0 ∨ n ≤ x ∨ y < 0 ∨ n ≤ y) → ∀ q dd H', Same H H' → H' q = some (.tup [.int x, .int y]) → H' dd = some (.xd [("value", .ref q)]) → E (.ref T.C_InvalidCell) (some dd) H') ∧ (0 ≤ x → x < n → 0 ≤ y → y < n → Q .non H)
theorem len_check_cell {vs H Q E} (T : Txt K mg) (h : sp_check_cell T vs H Q E) : vs.length = 3 := by obtain ⟨n, x, y, rfl, _⟩ := h; rfl
theorem use_ckcell {T : Txt K mg} {H : Hp} {Q : VK} {E : XK} {n x y : Int} (x0 : 0 ≤ x) (x1 : x < n) (y0 : 0 ≤ y) (y1 : y < n) (h : Q .non H) : sp_check_cell T [.int n, .int x, .int y] H Q E := ⟨n, x, y, rfl, fun z => by omega, fun _ _ _ _ => h⟩
theorem at_ckcell {T : Txt K mg} {H : Hp} {Q : VK} {E : XK} {n x y : Int} (e : (x < 0 ∨ n ≤ x ∨ y < 0 ∨ n ≤ y) → ∀ q dd H', Same H H' → H' q = some (.tup [.int x, .int y]) → H' dd = some (.xd [("value", .ref q)]) → E (.ref T.C_InvalidCell) (some dd) H') (h : 0 ≤ x → x < n → 0 ≤ y → y < n → Q .non H) : sp_check_cell T [.int n, .int x, .int y] H Q E := ⟨n, x, y, rfl, e, h⟩
local macro_rules | `(tactic| show "own") => `(tactic| (((with_reducible refine' use_ckcell ?s1 ?s2 ?s3 ?s4 ?nxt); (case s1 => (omega)); (case s2 => (omega)); (case s3 => (omega)); (case s4 => (omega)); (case' nxt => skip))))
theorem ok_check_cell (T : Txt K mg) : FnOk P w K mg base (L2.CX P w) 3 T.f_check_cell T.fd_check_cell ["n", "row", "column"] (sp_check_cell T) := by
  have G_SquareError___init__ : FnOk P w K mg base CX0 1 T.f_SquareError___init__ T.fd_SquareError___init__ ["self", "value"] (sp_SquareError___init__ T) := ok_SquareError___init__ T
  refine T.F_check_cell.okX sc_check_cell (fun vs H Q E h => ?_) (fun cdv A outer s H vs Q E hr h => ?_)
  · exact len_check_cell T h
  · refine ⟨_, (pss_one (ps_if (PW.pt (pw_or (pt_cmpR op_ltU (pv 1) pe_int (nomark _)) (pw_or (pt_cmpR op_geU (pv 1) (pv 0) (nomark _)) (pw_or (pt_cmpR op_ltU (pv 2) pe_int (nomark _)) (pw_or1 (pt_cmpR op_geU (pv 2) (pv 0) (nomark _))))))) (pss_one (ps_raise rfl (takes_of rfl rfl rfl rfl) (pmk_oex T.er_InvalidCell.o T.ii_InvalidCell T.ti_InvalidCell G_SquareError___init__ (hr.mono (by decide)) T.b_SquareError___init__ .nil pass0 rfl T.gC_InvalidCell (pa_cons (pe_tup (pa_cons (pv 1) (pa_cons (pv 2) pa_nil))) pa_nil)))) pss_nil)), ?_⟩
    clear hr
    obtain ⟨n, x, y, rfl, k1, k⟩ := h
    refine st_eq (σ' := [some _, some _, some _]) rfl ?_
    have fin : (x < 0 ∨ n ≤ x ∨ y < 0 ∨ n ≤ y) → ∀ q H1, Same H H1 → H1 q = some (.tup [.int x, .int y]) → MkOR T.C_InvalidCell (sp_SquareError___init__ T) [.ref q] H1 fun cls d H' => E cls d H' := by
      intro hb q H1 s1 h1
      exact use_err T.er_InvalidCell T.vn_InvalidCell fun dd H' f s h => k1 hb q dd H' (by show "same") (s _ _ h1) h
    show "go"
    refine or_2 (fun e1 => ?_) (fun e1 => ?_)
    · show "go"
      exact fin (.inl e1) _ _ (by show "same") (by show "hp")
    · show "go"
      refine or_2 (fun e2 => ?_) (fun e2 => ?_)
      · show "go"
        exact fin (.inr (.inl e2)) _ _ (by show "same") (by show "hp")
      · show "go"
        refine or_2 (fun e3 => ?_) (fun e3 => ?_)
        · show "go"
          exact fin (.inr (.inr (.inl e3))) _ _ (by show "same") (by show "hp")
        · show "go"
          by_cases e4 : n ≤ y
          · show "go"
            exact fin (.inr (.inr (.inr e4))) _ _ (by show "same") (by show "hp")
          · show "go"
            exact k (by omega) (by omega) (by omega) (by omega)
/-! #### check_size: 0 n -/
def sp_check_size (T : Txt K mg) : Sp := fun vs H Q E => ∃ n : Int, vs = [.int n] ∧ (n < 1 → ∀ dd H', Same H H' → H' dd = some (.xd [("value", .int n)]) → E (.ref T.C_InvalidSize) (some dd) H') ∧ (1 ≤ n → Q .non H)
theorem len_check_size {vs H Q E} (T : Txt K mg) (h : sp_check_size T vs H Q E) : vs.length = 1 := by obtain ⟨n, rfl, _⟩ := h; rfl
theorem use_cksize {T : Txt K mg} {H : Hp} {Q : VK} {E : XK} {n : Int} (hn : 1 ≤ n) (h : Q .non H) : sp_check_size T [.int n] H Q E := ⟨n, rfl, fun z => by omega, fun _ => h⟩
theorem at_cksize {T : Txt K mg} {H : Hp} {Q : VK} {E : XK} {n : Int} (e : n < 1 → ∀ dd H', Same H H' → H' dd = some (.xd [("value", .int n)]) → E (.ref T.C_InvalidSize) (some dd) H') (h : 1 ≤ n → Q .non H) : sp_check_size T [.int n] H Q E := ⟨n, rfl, e, h⟩
local macro_rules | `(tactic| show "own") => `(tactic| (((with_reducible refine' use_cksize ?s1 ?nxt); (case s1 => (omega)); (case' nxt => skip))))
theorem ok_check_size (T : Txt K mg) : FnOk P w K mg base (L2.CX P w) 3 T.f_check_size T.fd_check_size ["n"] (sp_check_size T) := by
  have G_SquareError___init__ : FnOk P w K mg base CX0 1 T.f_SquareError___init__ T.fd_SquareError___init__ ["self", "value"] (sp_SquareError___init__ T) := ok_SquareError___init__ T
  refine T.F_check_size.okX sc_check_size (fun vs H Q E h => ?_) (fun cdv A outer s H vs Q E hr h => ?_)
  · exact len_check_size T h
  · refine ⟨_, (pss_one (ps_if (pt_cmpR op_ltU (pv 0) pe_int (nomark _)) (pss_one (ps_raise rfl (takes_of rfl rfl rfl rfl) (pmk_oex T.er_InvalidSize.o T.ii_InvalidSize T.ti_InvalidSize G_SquareError___init__ (hr.mono (by decide)) T.b_SquareError___init__ .nil pass0 rfl T.gC_InvalidSize (pa_cons (pv 0) pa_nil)))) pss_nil)), ?_⟩
    clear hr
    obtain ⟨n, rfl, k1, k⟩ := h
    refine st_eq (σ' := [some _]) rfl ?_
    show "go"
    refine ifs_2 (fun e => ?_) (fun e => ?_)
    · show "go"
      exact use_err T.er_InvalidSize T.vn_InvalidSize fun dd H' f s h => k1 e dd H' s h
    · show "go"
      exact k (by omega)
/-! #### Rule.sign: 0 self, 1 n, 2 row, 3 column -/
def sp_Rule_sign (T : Txt K mg) : Sp := fun vs H Q E => ∃ (r dx : Addr) (a b d n x y : Int), vs = [.ref r, .int n, .int x, .int y] ∧ H r = some (.ins T.C_Rule dx (fsR a b d)) ∧ Sz 9000 a ∧ Sz 9000 b ∧ Sz 9000 x ∧ Sz 9000 y ∧
  (n < 1 → ∀ dd H', Same H H' → H' dd = some (.xd [("value", .int n)]) → E (.ref T.C_InvalidSize) (some dd) H') ∧
  (1 ≤ n → (x < 0 ∨ n ≤ x ∨ y < 0 ∨ n ≤ y) → ∀ q dd H', Same H H' → H' q = some (.tup [.int x, .int y]) → H' dd = some (.xd [("value", .ref q)]) → E (.ref T.C_InvalidCell) (some dd) H') ∧
  (0 ≤ x → x < n → 0 ≤ y → y < n → Q (.int ((a * x + b * y + d) % n)) H)
theorem len_Rule_sign {vs H Q E} (T : Txt K mg) (h : sp_Rule_sign T vs H Q E) : vs.length = 4 := by obtain ⟨r, dx, a, b, d, n, x, y, rfl, _⟩ := h; rfl

theorem ok_Rule_sign (T : Txt K mg) : FnOk P w K mg base (L2.CX P w) 4 T.f_Rule_sign T.fd_Rule_sign ["self", "n", "row", "column"] (sp_Rule_sign T) := by
  have G_Rule__value : FnOk P w K mg base CX0 1 T.f_Rule__value T.fd_Rule__value ["self", "row", "column"] (sp_Rule__value T) := ok_Rule__value T
  have G_check_cell : FnOk P w K mg base (L2.CX P w) 3 T.f_check_cell T.fd_check_cell ["n", "row", "column"] (sp_check_cell T) := ok_check_cell T
  have G_check_size : FnOk P w K mg base (L2.CX P w) 3 T.f_check_size T.fd_check_size ["n"] (sp_check_size T) := ok_check_size T
  refine T.F_Rule_sign.okX sc_Rule_sign (fun vs H Q E h => ?_) (fun cdv A outer s H vs Q E hr h => ?_)
  · exact len_Rule_sign T h
  · refine ⟨_, (pss_cons (ps_expr (pe_call G_check_size (hr.mono (by decide)) rfl T.g_check_size T.F_check_size.kp T.b_check_size .nil (passes_call (takes_of rfl rfl rfl rfl) (fun _ _ _ _ h => h)) (pa_cons (pv 1) pa_nil)))
    (pss_cons (ps_expr (pe_call G_check_cell (hr.mono (by decide)) rfl T.g_check_cell T.F_check_cell.kp T.b_check_cell .nil (passes_call (takes_of rfl rfl rfl rfl) (fun _ _ _ _ h => h)) (pa_cons (pv 1) (pa_cons (pv 2) (pa_cons (pv 3) pa_nil)))))
    (pss_one (ps_ret (pe_op op_modU (pe_meth (pv 0) T.cl_Rule T.me_Rule__value G_Rule__value (hr.mono (by decide)) T.b_Rule__value .nil pass0 (pa_cons (pv 2) (pa_cons (pv 3) pa_nil))) (pv 1)))))), ?_⟩
    clear hr
    obtain ⟨r, dx, a, b, d, n, x, y, rfl, hr, sa, sb, sx, sy, k1, k2, k3⟩ := h
    refine st_eq (σ' := [some _, some _, some _, some _]) rfl ?_
    show "go"
    refine at_cksize k1 fun hn => ?_
    show "go"
    refine at_ckcell (k2 hn) fun x0 x1 y0 y1 => ?_
    show "go"
    exact k3 x0 x1 y0 y1
/-! #### _law_sign: 0 rule, 1 size, 2 r, 3 c, 4 found, 5 e -/
def sp__law_sign (T : Txt K mg) : Sp := fun vs H Q _ => ∃ (r dx : Addr) (a b d n x y : Int), vs = [.ref r, .int n, .int x, .int y] ∧ H r = some (.ins T.C_Rule dx (fsR a b d)) ∧ Sz 9000 a ∧ Sz 9000 b ∧ Sz 9000 x ∧ Sz 9000 y ∧
  (n < 1 → ∀ p H', Same H H' → H' p = some (.lst [.str "size", .int n, .bl true]) → Q (.ref p) H') ∧
  (1 ≤ n → (x < 0 ∨ n ≤ x ∨ y < 0 ∨ n ≤ y) → ∀ p q H', Same H H' → H' q = some (.tup [.int x, .int y]) → H' p = some (.lst [.str "cell", .ref q, .bl true]) → Q (.ref p) H') ∧
  (0 ≤ x → x < n → 0 ≤ y → y < n → ∀ p H', Same H H' → H' p = some (.lst [.str "told", .int ((a * x + b * y + d) % n), .bl true]) → Q (.ref p) H')
theorem len__law_sign {vs H Q E} (T : Txt K mg) (h : sp__law_sign T vs H Q E) : vs.length = 4 := by obtain ⟨r, dx, a, b, d, n, x, y, rfl, _⟩ := h; rfl
theorem use_sgn1 {T : Txt K mg} {H : Hp} {Q : VK} {E : XK} {r dx : Addr} {a b d n x y : Int} (h1 : H r = some (.ins T.C_Rule dx (fsR a b d))) (ha : Sz 9000 a) (hb : Sz 9000 b) (hx : Sz 9000 x) (hy : Sz 9000 y) (e : n < 1)
  (k : ∀ p H', Same H H' → H' p = some (.lst [.str "size", .int n, .bl true]) → Q (.ref p) H') : sp__law_sign T [.ref r, .int n, .int x, .int y] H Q E := ⟨r, dx, a, b, d, n, x, y, rfl, h1, ha, hb, hx, hy, fun _ => k, fun z => by omega, fun _ _ _ _ => by omega⟩
theorem use_sgn2 {T : Txt K mg} {H : Hp} {Q : VK} {E : XK} {r dx : Addr} {a b d n x y : Int} (h1 : H r = some (.ins T.C_Rule dx (fsR a b d))) (ha : Sz 9000 a) (hb : Sz 9000 b) (hx : Sz 9000 x) (hy : Sz 9000 y) (e : 1 ≤ n) (bad : x < 0 ∨ n ≤ x ∨ y < 0 ∨ n ≤ y)
  (k : ∀ p q H', Same H H' → H' q = some (.tup [.int x, .int y]) → H' p = some (.lst [.str "cell", .ref q, .bl true]) → Q (.ref p) H') : sp__law_sign T [.ref r, .int n, .int x, .int y] H Q E := ⟨r, dx, a, b, d, n, x, y, rfl, h1, ha, hb, hx, hy, fun _ => by omega, fun _ _ => k, fun _ _ _ _ => by omega⟩
theorem use_sgn3 {T : Txt K mg} {H : Hp} {Q : VK} {E : XK} {r dx : Addr} {a b d n x y : Int} (h1 : H r = some (.ins T.C_Rule dx (fsR a b d))) (ha : Sz 9000 a) (hb : Sz 9000 b) (hx : Sz 9000 x) (hy : Sz 9000 y) (e1 : 0 ≤ x) (e2 : x < n) (e3 : 0 ≤ y) (e4 : y < n)
  (k : ∀ p H', Same H H' → H' p = some (.lst [.str "told", .int ((a * x + b * y + d) % n), .bl true]) → Q (.ref p) H') : sp__law_sign T [.ref r, .int n, .int x, .int y] H Q E := ⟨r, dx, a, b, d, n, x, y, rfl, h1, ha, hb, hx, hy, fun _ => by omega, fun _ _ => by omega, fun _ _ _ _ => k⟩
local macro_rules | `(tactic| show "own") => `(tactic| (((with_reducible refine' use_sgn1 ?s1 ?s2 ?s3 ?s4 ?s5 ?s6 ?nxt); (case s1 => (show "hp")); (case s2 => (show "szf")); (case s3 => (show "szf")); (case s4 => (show "szf")); (case s5 => (show "szf")); (case s6 => (omega)); (case' nxt => skip)); intro _ _ _ _))
local macro_rules | `(tactic| show "own") => `(tactic| (((with_reducible refine' use_sgn2 ?s1 ?s2 ?s3 ?s4 ?s5 ?s6 ?s7 ?nxt); (case s1 => (show "hp")); (case s2 => (show "szf")); (case s3 => (show "szf")); (case s4 => (show "szf")); (case s5 => (show "szf")); (case s6 => (omega)); (case s7 => (omega)); (case' nxt => skip)); intro _ _ _ _ _ _))
local macro_rules | `(tactic| show "own") => `(tactic| (((with_reducible refine' use_sgn3 ?s1 ?s2 ?s3 ?s4 ?s5 ?s6 ?s7 ?s8 ?s9 ?nxt); (case s1 => (show "hp")); (case s2 => (show "szf")); (case s3 => (show "szf")); (case s4 => (show "szf")); (case s5 => (show "szf")); (case s6 => (omega)); (case s7 => (omega)); (case s8 => (omega)); (case s9 => (omega)); (case' nxt => skip)); intro _ _ _ _))
theorem ok__law_sign (T : Txt K mg) : FnOk P w K mg base CX0 5 T.f__law_sign T.fd__law_sign ["rule", "size", "r", "c"] (sp__law_sign T) := by
  have G_Rule_sign : FnOk P w K mg base (L2.CX P w) 4 T.f_Rule_sign T.fd_Rule_sign ["self", "n", "row", "column"] (sp_Rule_sign T) := ok_Rule_sign T
  refine T.F__law_sign.ok sc__law_sign (fun vs H Q E h => ?_) (fun cdv A outer s H vs Q E hr h => ?_)
  · exact len__law_sign T h
  · refine ⟨_, (pss_cons (ps_set (i := 4) sc__law_sign.nd rfl (Or.inl rfl) (pe_lst (pa_cons pe_str (pa_cons pe_int (pa_cons pe_bl pa_nil)))))
    (pss_cons (ps_tryA (i := 5) rfl rfl sc__law_sign.nd rfl rfl takes0 (by intro W pn xe tk po; apply pss_eq; exact (pss_one (ps_set (i := 4) sc__law_sign.nd rfl (Or.inl rfl) (pe_lst (pa_cons pe_str (pa_cons (pe_methT (pv 0) T.cl_Rule T.me_Rule_sign G_Rule_sign (hr.mono (by decide)) T.b_Rule_sign (fun σ => passAt tk σ) (pa_cons (pv 1) (pa_cons (pv 2) (pa_cons (pv 3) pa_nil)))) (pa_cons pe_bl pa_nil)))))); rfl) (.cons ⟨rfl, by decide, Or.inl T.gC_InvalidNumber⟩ (by intro a oe cls d pn hz hf; apply pss_eq; exact (pss_one (ps_set (i := 4) sc__law_sign.nd rfl (Or.inl rfl) (pe_lst (pa_cons pe_str (pa_cons (pe_xd (K := K) rfl hz hf (pv 5)) (pa_cons pe_bl pa_nil)))))); rfl) (.cons ⟨rfl, by decide, Or.inl T.gC_InvalidTurn⟩ (by intro a oe cls d pn hz hf; apply pss_eq; exact (pss_one (ps_set (i := 4) sc__law_sign.nd rfl (Or.inl rfl) (pe_lst (pa_cons pe_str (pa_cons (pe_xd (K := K) rfl hz hf (pv 5)) (pa_cons pe_bl pa_nil)))))); rfl) (.cons ⟨rfl, by decide, Or.inl T.gC_InvalidSize⟩ (by intro a oe cls d pn hz hf; apply pss_eq; exact (pss_one (ps_set (i := 4) sc__law_sign.nd rfl (Or.inl rfl) (pe_lst (pa_cons pe_str (pa_cons (pe_xd (K := K) rfl hz hf (pv 5)) (pa_cons (pe_and (pe_callB (call_isD (K := K) rfl hz hf) (by rfl) T.z_isinstance (by decide +kernel) (pa_cons (pv 5) (pa_cons (pe_bltn (v := .ty "ValueError") (by rfl) T.z_ValueError (by decide +kernel) rfl) pa_nil))) (pe_one (pe_not (pe_callB (call_isD (K := K) rfl hz hf) (by rfl) T.z_isinstance (by decide +kernel) (pa_cons (pv 5) (pa_cons (pe_glob (v := .ref T.C_InvalidCell) rfl T.gC_InvalidCell rfl) pa_nil)))))) pa_nil)))))); rfl) (.cons ⟨rfl, by decide, Or.inl T.gC_InvalidCell⟩ (by intro a oe cls d pn hz hf; apply pss_eq; exact (pss_one (ps_set (i := 4) sc__law_sign.nd rfl (Or.inl rfl) (pe_lst (pa_cons pe_str (pa_cons (pe_xd (K := K) rfl hz hf (pv 5)) (pa_cons (pe_and (pe_callB (call_isD (K := K) rfl hz hf) (by rfl) T.z_isinstance (by decide +kernel) (pa_cons (pv 5) (pa_cons (pe_bltn (v := .ty "ValueError") (by rfl) T.z_ValueError (by decide +kernel) rfl) pa_nil))) (pe_one (pe_not (pe_callB (call_isD (K := K) rfl hz hf) (by rfl) T.z_isinstance (by decide +kernel) (pa_cons (pv 5) (pa_cons (pe_glob (v := .ref T.C_InvalidSize) rfl T.gC_InvalidSize rfl) pa_nil)))))) pa_nil)))))); rfl) .nil)))))
    (pss_one (ps_ret (pv 4))))), ?_⟩
    clear hr
    obtain ⟨r, dx, a, b, d, n, x, y, rfl, hr, sa, sb, sx, sy, k1, k2, k3⟩ := h
    refine st_eq (σ' := [some _, some _, some _, some _, none, none]) rfl ?_
    have hc := T.cl_Rule
    have er_InvalidSize := T.er_InvalidSize
    have vn_InvalidSize := T.vn_InvalidSize
    have kv_InvalidSize := T.kv_InvalidSize
    have kt_InvalidSize_InvalidCell := T.kt_InvalidSize_InvalidCell
    have er_InvalidCell := T.er_InvalidCell
    have vn_InvalidCell := T.vn_InvalidCell
    have kv_InvalidCell := T.kv_InvalidCell
    have kt_InvalidCell_InvalidSize := T.kt_InvalidCell_InvalidSize
    show "go"
    rename_i P HP fP sP hP
    refine ⟨r, dx, a, b, d, n, x, y, rfl, by show "hp", sa, sb, sx, sy, fun e dd H1 s1 h1 => ?_, fun e hb q dd H1 s1 hq h1 => ?_, fun e1 e2 e3 e4 => ?_⟩
    · refine we_at ?_
      refine wm_no T.em_InvalidSize_InvalidNumber ?_
      refine wm_no T.em_InvalidSize_InvalidTurn ?_
      refine wm_yes T.em_InvalidSize_InvalidSize fun z hz => ?_
      show "go"
      exact k1 e _ _ (by show "same") (by show "hp")
    · refine we_at ?_
      refine wm_no T.em_InvalidCell_InvalidNumber ?_
      refine wm_no T.em_InvalidCell_InvalidTurn ?_
      refine wm_no T.em_InvalidCell_InvalidSize ?_
      refine wm_yes T.em_InvalidCell_InvalidCell fun z hz => ?_
      show "go"
      exact k2 e hb _ q _ (by show "same") (by show "hp") (by show "hp")
    · show "go"
      exact k3 e1 e2 e3 e4 _ _ (by show "same") (by show "hp")
/-! #### _law_whole: 0 found -/
def sp__law_whole (_ : Txt K mg) : Sp := fun vs H Q _ => ∃ i : Int, vs = [.int i] ∧ Q (.bl true) H
theorem len__law_whole {vs H Q E} (T : Txt K mg) (h : sp__law_whole T vs H Q E) : vs.length = 1 := by obtain ⟨i, rfl, _⟩ := h; rfl
theorem use_whole {T : Txt K mg} {H : Hp} {Q : VK} {E : XK} {i : Int} (h : Q (.bl true) H) : sp__law_whole T [.int i] H Q E := ⟨i, rfl, h⟩
local macro_rules | `(tactic| show "own") => `(tactic| ((with_reducible refine use_whole ?_)))
theorem ok__law_whole (T : Txt K mg) : FnOk P w K mg base CX0 1 T.f__law_whole T.fd__law_whole ["found"] (sp__law_whole T) := by
  refine T.F__law_whole.ok sc__law_whole (fun vs H Q E h => ?_) (fun cdv A outer s H vs Q E hr h => ?_)
  · exact len__law_whole T h
  · refine ⟨_, (pss_one (ps_ret (pe_and (pe_callB (c_isiK (K := K) rfl) (by rfl) T.z_isinstance (by decide +kernel) (pa_cons (pv 0) (pa_cons (pe_bltn (v := .ty "int") (by rfl) T.z_int (by decide +kernel) rfl) pa_nil))) (pe_one (pe_not (pe_callB (c_isiK (K := K) rfl) (by rfl) T.z_isinstance (by decide +kernel) (pa_cons (pv 0) (pa_cons (pe_bltn (v := .ty "bool") (by rfl) T.z_bool (by decide +kernel) rfl) pa_nil)))))))), ?_⟩
    clear hr
    obtain ⟨i, rfl, k⟩ := h
    refine st_eq (σ' := [some _]) rfl ?_
    show "go"
    exact k
/-! #### _law_good: 0 rule, 1 numbers, 2 size, 3 places, 4 x, 5 y, 6 z, 7 spot, 8 r, 9 c, 10 found -/
def sp__law_good (T : Txt K mg) : Sp := fun vs H Q _ => ∃ (r dx l m : Addr) (xs : List V) (a b d n : Int), vs = [.ref r, .ref m, .int n, .ref l] ∧ H r = some (.ins T.C_Rule dx (fsR a b d)) ∧ H m = some (.lst [.int a, .int b, .int d]) ∧ Sz 8000 a ∧ Sz 8000 b ∧ 1 ≤ n ∧ Sz 9000 n ∧ H l = some (.lst xs) ∧
  (∀ v ∈ xs, ∃ q x y, v = .ref q ∧ H q = some (.tup [.int x, .int y])) ∧ ∀ H', Same H H' → Q (.bl true) H' 
theorem len__law_good {vs H Q E} (T : Txt K mg) (h : sp__law_good T vs H Q E) : vs.length = 4 := by obtain ⟨r, dx, l, m, xs, a, b, d, n, rfl, _⟩ := h; rfl
theorem use_good {T : Txt K mg} {H : Hp} {Q : VK} {E : XK} {r dx l m : Addr} {xs : List V} {a b d n : Int} (h1 : H r = some (.ins T.C_Rule dx (fsR a b d))) (h2 : H m = some (.lst [.int a, .int b, .int d])) (ha : Sz 8000 a) (hb : Sz 8000 b) (hn : 1 ≤ n) (sn : Sz 9000 n) (hl : H l = some (.lst xs)) (hx : TupZ H xs)
  (k : ∀ H', Same H H' → Q (.bl true) H') : sp__law_good T [.ref r, .ref m, .int n, .ref l] H Q E := ⟨r, dx, l, m, xs, a, b, d, n, rfl, h1, h2, ha, hb, hn, sn, hl, fun v hv => by obtain ⟨q, x, y, e, h, _⟩ := hx.mem v hv; exact ⟨q, x, y, e, h⟩, k⟩
local macro_rules | `(tactic| show "own") => `(tactic| (((with_reducible refine' use_good ?s1 ?s2 ?s3 ?s4 ?s5 ?s6 ?s7 ?s8 ?nxt); (case s1 => (show "hp")); (case s2 => (show "hp")); (case s3 => (show "szf")); (case s4 => (show "szf")); (case s5 => (omega)); (case s6 => (show "szf")); (case s7 => (show "hp")); (case s8 => (show "tups")); (case' nxt => skip)); intro _ _))
theorem ok__law_good (T : Txt K mg) : FnOk P w K mg base CX0 6 T.f__law_good T.fd__law_good ["rule", "numbers", "size", "places"] (sp__law_good T) := by
  have G__law_sign : FnOk P w K mg base CX0 5 T.f__law_sign T.fd__law_sign ["rule", "size", "r", "c"] (sp__law_sign T) := ok__law_sign T
  have G__law_whole : FnOk P w K mg base CX0 1 T.f__law_whole T.fd__law_whole ["found"] (sp__law_whole T) := ok__law_whole T
  refine T.F__law_good.ok sc__law_good (fun vs H Q E h => ?_) (fun cdv A outer s H vs Q E hr h => ?_)
  · exact len__law_good T h
  · refine ⟨_, (pss_cons (ps_asg (pv 1) (pg_tlK (K := K) rfl rfl (pgs_cons (pg_name (i := 4) sc__law_good.nd rfl (Or.inl rfl)) (pgs_cons (pg_name (i := 5) sc__law_good.nd rfl (Or.inl rfl)) (pgs_cons (pg_name (i := 6) sc__law_good.nd rfl (Or.inl rfl)) pgs_nil)))))
    (pss_cons (ps_for PassesOwn.never rfl (pi_listK (K := K) rfl (pv 3)) (pg_name (i := 7) sc__law_good.nd rfl (Or.inl rfl)) (pss_cons (ps_par (i := 8) (j := 9) (by rfl) sc__law_good.nd rfl rfl (by decide) rfl rfl (pa_cons (pe_op op_modU (pe_callTy c_int1 (by rfl) T.z_int (by decide +kernel) (pa_cons (pe_ix (ix_seqK (K := K) rfl) (pv 7) pe_int (fun _ _ => rfl)) pa_nil)) (pv 2)) (pa_cons (pe_op op_modU (pe_callTy c_int1 (by rfl) T.z_int (by decide +kernel) (pa_cons (pe_ix (ix_seqK (K := K) rfl) (pv 7) pe_int (fun _ _ => rfl)) pa_nil)) (pv 2)) pa_nil)) (by rfl))
    (pss_cons (ps_set (i := 10) sc__law_good.nd rfl (Or.inl rfl) (pe_call G__law_sign (hr.mono (by decide)) rfl T.g__law_sign T.F__law_sign.kp T.b__law_sign .nil pass0 (pa_cons (pv 0) (pa_cons (pv 2) (pa_cons (pv 8) (pa_cons (pv 9) pa_nil))))))
    (pss_one (ps_if (PW.pt (pw_or (pt_cmpR (op_neK (K := K) rfl hr.units) (pv 10) (pe_lst (pa_cons pe_str (pa_cons (pe_op op_modU (pe_callTy c_int1 (by rfl) T.z_int (by decide +kernel) (pa_cons (pe_op (op_addK (K := K) rfl) (pe_op (op_addK (K := K) rfl) (pe_op op_mulU (pv 4) (pv 8)) (pe_op op_mulU (pv 5) (pv 9))) (pv 6)) pa_nil)) (pv 2)) (pa_cons pe_bl pa_nil)))) (nomark _)) (pw_or1 (pt_not (ptTK (K := K) rfl (pe_call G__law_whole (hr.mono (by decide)) rfl T.g__law_whole T.F__law_whole.kp T.b__law_whole .nil pass0 (pa_cons (pe_ix (ix_seqK (K := K) rfl) (pv 10) pe_int (fun _ _ => rfl)) pa_nil)) (by intro _; rfl)))))) (pss_one (ps_ret pe_bl)) pss_nil)))))
    (pss_one (ps_ret pe_bl)))), ?_⟩
    clear hr
    obtain ⟨r, dx, l, m, xs, a, b, d, n, rfl, hr, hm, sa, sb, hn, sn, hl, hxs, k⟩ := h
    refine st_eq (σ' := [some _, some _, some _, some _, none, none, none, none, none, none, none]) rfl ?_
    have sa9 : Sz 9000 a := sa.mono (by decide)
    have sb9 : Sz 9000 b := sb.mono (by decide)
    show "go"
    refine f_list (xs := xs) (fun i σ' H' => Same H H' ∧ ∃ v0 v1 v2 v3, σ' = [some (.ref r), some (.ref m), some (.int n), some (.ref l), some (.int a), some (.int b), some (.int d), v0, v1, v2, v3]) (SqL.of hl) ⟨Same.refl _, _, _, _, _, rfl⟩ (fun i σ' H' _ q => SqL.of (q.1 _ _ hl)) ?_ ?_
    · rintro i v σ' H' hi ⟨s1, v0, v1, v2, v3, rfl⟩
      obtain ⟨q, x, y, rfl, hq⟩ := hxs v (List.mem_of_getElem? hi)
      have hx : Sz 9000 (x % n) := Sz.mod (by omega) sn
      have hy : Sz 9000 (y % n) := Sz.mod (by omega) sn
      have x0 := Int.emod_nonneg x (show n ≠ 0 by omega)
      have x1 := Int.emod_lt_of_pos x (show 0 < n by omega)
      have y0 := Int.emod_nonneg y (show n ≠ 0 by omega)
      have y1 := Int.emod_lt_of_pos y (show 0 < n by omega)
      show "go"
      exact ⟨by show "same", _, _, _, _, rfl⟩
    · rintro σ' H' ⟨s1, v0, v1, v2, v3, rfl⟩
      show "go"
      exact k _ (by show "same")
/-! #### _law_near: 0 pool, 1 most -/
def sp__law_near (_ : Txt K mg) : Sp := fun vs H Q _ => ∃ (p : Addr) (z m : Int), vs = [.ref p, .int m] ∧ H p = some (.lst [.int z]) ∧ 0 ≤ z ∧ 0 ≤ m ∧ Sz 8000 m ∧
  ∀ x z' H', -m ≤ x → x ≤ m → 0 ≤ z' → SB p H H' → H' p = some (.lst [.int z']) → Q (.int x) H' 
theorem len__law_near {vs H Q E} (T : Txt K mg) (h : sp__law_near T vs H Q E) : vs.length = 2 := by obtain ⟨p, z, m, rfl, _⟩ := h; rfl
theorem use_near {T : Txt K mg} {H : Hp} {Q : VK} {E : XK} {p : Addr} {z m : Int} {b : Nat} (h1 : H p = some (.lst [.int z])) (h2 : 0 ≤ z) (h3 : 0 ≤ m) (h4 : Sz b m) (h5 : b ≤ 8000)
  (k : ∀ x z' H', -m ≤ x → x ≤ m → 0 ≤ z' → SB p H H' → H' p = some (.lst [.int z']) → Q (.int x) H') : sp__law_near T [.ref p, .int m] H Q E := ⟨p, z, m, rfl, h1, h2, h3, h4.mono h5, k⟩
local macro_rules | `(tactic| show "own") => `(tactic| (((with_reducible refine' use_near ?s1 ?s2 ?s3 ?s4 ?s5 ?nxt); (case s1 => (show "hp")); (case s2 => (assumption)); (case s3 => (omega)); (case s4 => (show "sz")); (case s5 => (decide)); (case' nxt => skip)); intro _ _ _ _ _ _ _ _))
theorem ok__law_near (T : Txt K mg) : FnOk P w K mg base CX0 2 T.f__law_near T.fd__law_near ["pool", "most"] (sp__law_near T) := by
  have G__law_take : FnOk P w K mg base CX0 1 T.f__law_take T.fd__law_take ["pool", "many"] (sp__law_take T) := ok__law_take T
  refine T.F__law_near.ok sc__law_near (fun vs H Q E h => ?_) (fun cdv A outer s H vs Q E hr h => ?_)
  · exact len__law_near T h
  · refine ⟨_, (pss_one (ps_ret (pe_op op_subU (pe_call G__law_take (hr.mono (by decide)) rfl T.g__law_take T.F__law_take.kp T.b__law_take .nil pass0 (pa_cons (pv 0) (pa_cons (pe_op (op_addK (K := K) rfl) (pe_op op_mulU pe_int (pv 1)) pe_int) pa_nil))) (pv 1)))), ?_⟩
    clear hr
    obtain ⟨p, z, m, rfl, hp, h0, hm, hs, k⟩ := h
    refine st_eq (σ' := [some _, some _]) rfl ?_
    show "go"
    exact k _ _ _ (by omega) (by omega) (by assumption) ‹_› ‹_›
/-! #### _law_base: 0 rule, 1 size, 2 r, 3 c, 4 found, 5 e -/
def sp__law_base (T : Txt K mg) : Sp := fun vs H Q _ => ∃ (r dx : Addr) (a b d n x y : Int), vs = [.ref r, .int n, .int x, .int y] ∧ H r = some (.ins T.C_Rule dx (fsR a b d)) ∧ Sz 9000 a ∧ Sz 9000 b ∧ Sz 9000 x ∧ Sz 9000 y ∧
  (n < 1 ∨ x < 0 ∨ n ≤ x ∨ y < 0 ∨ n ≤ y) ∧ ∀ H', Same H H' → Q (.bl true) H' 
theorem len__law_base {vs H Q E} (T : Txt K mg) (h : sp__law_base T vs H Q E) : vs.length = 4 := by obtain ⟨r, dx, a, b, d, n, x, y, rfl, _⟩ := h; rfl
theorem use_base {T : Txt K mg} {H : Hp} {Q : VK} {E : XK} {r dx : Addr} {a b d n x y : Int} (h1 : H r = some (.ins T.C_Rule dx (fsR a b d))) (ha : Sz 9000 a) (hb : Sz 9000 b) (hx : Sz 9000 x) (hy : Sz 9000 y) (bad : n < 1 ∨ x < 0 ∨ n ≤ x ∨ y < 0 ∨ n ≤ y) (k : ∀ H', Same H H' → Q (.bl true) H') :
  sp__law_base T [.ref r, .int n, .int x, .int y] H Q E := ⟨r, dx, a, b, d, n, x, y, rfl, h1, ha, hb, hx, hy, bad, k⟩
local macro_rules | `(tactic| show "own") => `(tactic| (((with_reducible refine' use_base ?s1 ?s2 ?s3 ?s4 ?s5 ?s6 ?nxt); (case s1 => (show "hp")); (case s2 => (show "szf")); (case s3 => (show "szf")); (case s4 => (show "szf")); (case s5 => (show "szf")); (case s6 => (omega)); (case' nxt => skip)); intro _ _))
theorem ok__law_base (T : Txt K mg) : FnOk P w K mg base CX0 5 T.f__law_base T.fd__law_base ["rule", "size", "r", "c"] (sp__law_base T) := by
  have G_Rule_sign : FnOk P w K mg base (L2.CX P w) 4 T.f_Rule_sign T.fd_Rule_sign ["self", "n", "row", "column"] (sp_Rule_sign T) := ok_Rule_sign T
  refine T.F__law_base.ok sc__law_base (fun vs H Q E h => ?_) (fun cdv A outer s H vs Q E hr h => ?_)
  · exact len__law_base T h
  · refine ⟨_, (pss_cons (ps_set (i := 4) sc__law_base.nd rfl (Or.inl rfl) pe_bl)
    (pss_cons (ps_tryA (i := 5) rfl rfl sc__law_base.nd rfl rfl takes0 (by intro W pn xe tk po; apply pss_eq; exact (pss_one (ps_expr (pe_methTK0 (pv 0) T.cl_Rule T.me_Rule_sign G_Rule_sign (hr.mono (by decide)) T.kb_Rule_sign_1_n_row_column (fun σ => passAt tk σ) (pk_cons (pv 1) (pk_cons (pv 2) (pk_cons (pv 3) pk_nil)))))); rfl) (.cons ⟨rfl, by decide, Or.inl T.gC_SquareError⟩ (by intro a oe cls d pn hz hf; apply pss_eq; exact (pss_one (ps_set (i := 4) sc__law_base.nd rfl (Or.inl rfl) (pe_callB (call_isD (K := K) rfl hz hf) (by rfl) T.z_isinstance (by decide +kernel) (pa_cons (pv 5) (pa_cons (pe_bltn (v := .ty "ValueError") (by rfl) T.z_ValueError (by decide +kernel) rfl) pa_nil))))); rfl) .nil))
    (pss_one (ps_ret (pv 4))))), ?_⟩
    clear hr
    obtain ⟨r, dx, a, b, d, n, x, y, rfl, hr, sa, sb, sx, sy, bad, k⟩ := h
    refine st_eq (σ' := [some _, some _, some _, some _, none, none]) rfl ?_
    have hc := T.cl_Rule
    have er_InvalidSize := T.er_InvalidSize
    have vn_InvalidSize := T.vn_InvalidSize
    have kv_InvalidSize := T.kv_InvalidSize
    have er_InvalidCell := T.er_InvalidCell
    have vn_InvalidCell := T.vn_InvalidCell
    have kv_InvalidCell := T.kv_InvalidCell
    show "go"
    refine ⟨r, dx, a, b, d, n, x, y, rfl, by show "hp", sa, sb, sx, sy, fun e dd H1 s1 h1 => ?_, fun e hb q dd H1 s1 hq h1 => ?_, fun e1 e2 e3 e4 => ?_⟩
    · refine we_at ?_
      refine wm_yes T.em_InvalidSize_SquareError fun z hz => ?_
      show "go"
      exact k _ (by show "same")
    · refine we_at ?_
      refine wm_yes T.em_InvalidCell_SquareError fun z hz => ?_
      show "go"
      exact k _ (by show "same")
    · omega
/-! #### _law_no_cell: 0 rule, 1 size, 2 r, 3 c, 4 found, 5 one -/
def sp__law_no_cell (T : Txt K mg) : Sp := fun vs H Q _ => ∃ (r dx : Addr) (a b d n x y : Int), vs = [.ref r, .int n, .int x, .int y] ∧ H r = some (.ins T.C_Rule dx (fsR a b d)) ∧ Sz 9000 a ∧ Sz 9000 b ∧ Sz 9000 x ∧ Sz 9000 y ∧
  1 ≤ n ∧ (x < 0 ∨ n ≤ x ∨ y < 0 ∨ n ≤ y) ∧ ∀ H', Same H H' → Q (.bl true) H' 
theorem len__law_no_cell {vs H Q E} (T : Txt K mg) (h : sp__law_no_cell T vs H Q E) : vs.length = 4 := by obtain ⟨r, dx, a, b, d, n, x, y, rfl, _⟩ := h; rfl
theorem use_nocell {T : Txt K mg} {H : Hp} {Q : VK} {E : XK} {r dx : Addr} {a b d n x y : Int} (h1 : H r = some (.ins T.C_Rule dx (fsR a b d))) (ha : Sz 9000 a) (hb : Sz 9000 b) (hx : Sz 9000 x) (hy : Sz 9000 y) (e : 1 ≤ n) (bad : x < 0 ∨ n ≤ x ∨ y < 0 ∨ n ≤ y) (k : ∀ H', Same H H' → Q (.bl true) H') :
  sp__law_no_cell T [.ref r, .int n, .int x, .int y] H Q E := ⟨r, dx, a, b, d, n, x, y, rfl, h1, ha, hb, hx, hy, e, bad, k⟩
local macro_rules | `(tactic| show "own") => `(tactic| (((with_reducible refine' use_nocell ?s1 ?s2 ?s3 ?s4 ?s5 ?s6 ?s7 ?nxt); (case s1 => (show "hp")); (case s2 => (show "szf")); (case s3 => (show "szf")); (case s4 => (show "szf")); (case s5 => (show "szf")); (case s6 => (omega)); (case s7 => (omega)); (case' nxt => skip)); intro _ _))
theorem ok__law_no_cell (T : Txt K mg) : FnOk P w K mg base CX0 6 T.f__law_no_cell T.fd__law_no_cell ["rule", "size", "r", "c"] (sp__law_no_cell T) := by
  have G__law_base : FnOk P w K mg base CX0 5 T.f__law_base T.fd__law_base ["rule", "size", "r", "c"] (sp__law_base T) := ok__law_base T
  have G__law_sign : FnOk P w K mg base CX0 5 T.f__law_sign T.fd__law_sign ["rule", "size", "r", "c"] (sp__law_sign T) := ok__law_sign T
  have G__law_whole : FnOk P w K mg base CX0 1 T.f__law_whole T.fd__law_whole ["found"] (sp__law_whole T) := ok__law_whole T
  refine T.F__law_no_cell.ok sc__law_no_cell (fun vs H Q E h => ?_) (fun cdv A outer s H vs Q E hr h => ?_)
  · exact len__law_no_cell T h
  · refine ⟨_, (pss_cons (ps_set (i := 4) sc__law_no_cell.nd rfl (Or.inl rfl) (pe_call G__law_sign (hr.mono (by decide)) rfl T.g__law_sign T.F__law_sign.kp T.b__law_sign .nil pass0 (pa_cons (pv 0) (pa_cons (pv 1) (pa_cons (pv 2) (pa_cons (pv 3) pa_nil))))))
    (pss_cons (ps_if (PW.pt (pw_or (pt_not (ptTK (K := K) rfl (pe_callB (c_isiK (K := K) rfl) (by rfl) T.z_isinstance (by decide +kernel) (pa_cons (pe_ix (ix_seqK (K := K) rfl) (pv 4) pe_int (fun _ _ => rfl)) (pa_cons (pe_bltn (v := .ty "tuple") (by rfl) T.z_tuple (by decide +kernel) rfl) pa_nil))) (by intro _; rfl))) (pw_or1 (pt_cmpR (op_neK (K := K) rfl hr.units) (pe_lc (own := [("one", 5)]) rfl sc__law_no_cell.nd (pi_tupK (K := K) rfl (pe_ix (ix_seqK (K := K) rfl) (pv 4) pe_int (fun _ _ => rfl))) (blkOk_by (own := [("one", 5)]) (N := N__law_no_cell) (sc := defScope s__law_no_cell) (by first | decide +kernel | rfl)) (fun _ _ _ _ _ => (pg_name (i := 5) sc__law_no_cell.nd rfl (by first | exact Or.inl rfl | exact Or.inr rfl))) (fun _ _ _ _ _ => (pts_one (pt_not (ptTK (K := K) rfl (pe_call G__law_whole (hr.mono (by decide)) rfl T.g__law_whole T.F__law_whole.kp T.b__law_whole .nil pass0 (pa_cons (pv 5) pa_nil)) (by intro _; rfl))))) (fun _ _ _ _ _ => (pv 5))) (pe_lst pa_nil) (nomark _))))) (pss_one (ps_ret pe_bl)) pss_nil)
    (pss_one (ps_ret (pe_and (pe_cmpR (op_eqK (K := K) rfl hr.units) (pv 4) (pe_lst (pa_cons pe_str (pa_cons (pe_tup (pa_cons (pv 2) (pa_cons (pv 3) pa_nil))) (pa_cons pe_bl pa_nil)))) (nomark _)) (pe_one (pe_call G__law_base (hr.mono (by decide)) rfl T.g__law_base T.F__law_base.kp T.b__law_base .nil pass0 (pa_cons (pv 0) (pa_cons (pv 1) (pa_cons (pv 2) (pa_cons (pv 3) pa_nil))))))))))), ?_⟩
    clear hr
    obtain ⟨r, dx, a, b, d, n, x, y, rfl, hr, sa, sb, sx, sy, hn, bad, k⟩ := h
    refine st_eq (σ' := [some _, some _, some _, some _, none, none]) rfl ?_
    show "go"
    refine lcu_fun (fun _ => none) (by show "hp") (by exact Nat.le_of_ble_eq_true rfl) ?_ ?_
    · intro v hv H1 s1 R kR
      simp only [List.mem_cons, List.not_mem_nil, or_false] at hv
      rcases hv with rfl | rfl <;> (show "go"; exact kR _ (Same.refl _))
    · intro D H1 fD s1 hD
      rw [show List.filterMap (fun _ => none) [V.int x, V.int y] = ([] : List V) from rfl] at hD
      show "go"
      exact k _ (by show "same")
/-! #### Rule.square: 0 self, 1 n, 2 row, 3 column -/
def sp_Rule_square (T : Txt K mg) : Sp := fun vs H Q E => ∃ (r dx : Addr) (a b d n : Int), vs = [.ref r, .int n] ∧ H r = some (.ins T.C_Rule dx (fsR a b d)) ∧ n ≤ 1000 ∧ Sz 8000 a ∧ Sz 8000 b ∧
  (n < 1 → ∀ dd H', Same H H' → H' dd = some (.xd [("value", .int n)]) → E (.ref T.C_InvalidSize) (some dd) H') ∧
  (1 ≤ n → ∀ t qs H', Fr H t → Same H H' → qs.Nodup → t ∉ qs → (∀ q ∈ qs, Fr H q) → SqAt a b d n.toNat t qs H' → Q (.ref t) H')
theorem len_Rule_square {vs H Q E} (T : Txt K mg) (h : sp_Rule_square T vs H Q E) : vs.length = 2 := by obtain ⟨r, dx, a, b, d, n, rfl, _⟩ := h; rfl

theorem ok_Rule_square (T : Txt K mg) : FnOk P w K mg base (L2.CX P w) 4 T.f_Rule_square T.fd_Rule_square ["self", "n"] (sp_Rule_square T) := by
  have G_Rule__value : FnOk P w K mg base CX0 1 T.f_Rule__value T.fd_Rule__value ["self", "row", "column"] (sp_Rule__value T) := ok_Rule__value T
  have G_check_size : FnOk P w K mg base (L2.CX P w) 3 T.f_check_size T.fd_check_size ["n"] (sp_check_size T) := ok_check_size T
  refine T.F_Rule_square.okX sc_Rule_square (fun vs H Q E h => ?_) (fun cdv A outer s H vs Q E hr h => ?_)
  · exact len_Rule_square T h
  · refine ⟨_, (pss_cons (ps_expr (pe_call G_check_size (hr.mono (by decide)) rfl T.g_check_size T.F_check_size.kp T.b_check_size .nil (passes_call (takes_of rfl rfl rfl rfl) (fun _ _ _ _ h => h)) (pa_cons (pv 1) pa_nil)))
    (pss_one (ps_ret (pe_lc (own := [("row", 2)]) rfl sc_Rule_square.nd (pi_range1 rfl T.z_range (pa_cons (pv 1) pa_nil)) (blkOk_by (own := [("row", 2)]) (N := N_Rule_square) (sc := defScope s_Rule_square) (by first | decide +kernel | rfl)) (fun _ _ _ _ _ => (pg_name (i := 2) sc_Rule_square.nd rfl (by first | exact Or.inl rfl | exact Or.inr rfl))) (fun _ _ _ _ _ => pts_nil) (fun _ _ _ _ _ => (pe_lc (own := [("column", 3)]) rfl sc_Rule_square.nd (pi_range1 rfl T.z_range (pa_cons (pv 1) pa_nil)) (blkOk_by (own := [("column", 3)]) (N := N_Rule_square) (sc := _) (by first | decide +kernel | rfl)) (fun _ _ _ _ _ => (pg_name (i := 3) sc_Rule_square.nd rfl (by first | exact Or.inl rfl | exact Or.inr rfl))) (fun _ _ _ _ _ => pts_nil) (fun _ _ _ _ _ => (pe_op op_modU (pe_meth (pv 0) T.cl_Rule T.me_Rule__value G_Rule__value (hr.mono (by decide)) T.b_Rule__value .nil pass0 (pa_cons (pv 2) (pa_cons (pv 3) pa_nil))) (pv 1))))))))), ?_⟩
    clear hr
    obtain ⟨r, dx, a, b, d, n, rfl, hr, hm, ha, hb, k1, k⟩ := h
    refine st_eq (σ' := [some _, some _, none, none]) rfl ?_
    show "go"
    refine at_cksize k1 fun hn => ?_
    · show "go"
      refine lcr1_rows (fun i => rowV a b d n.toNat i) (by omega) (by omega) ?_ ?_
      · intro i hi H1 s1 Z kZ
        show "go"
        refine lcr1_fun (rowF a b d n i) (by omega) (by omega) ?_ ?_
        · intro j hj H2 s2 R kR
          show "go"
          exact kR _ (Same.refl _)
        · intro D H2 fD s2 hD
          rw [rowF_eq a b d n i (by omega)] at hD
          show "go"
          exact kZ _ _ fD s2 hD
      · intro D qs H1 fD s1 hl hnd hDq hf hq hD
        exact k hn _ _ _ fD s1 hnd hDq hf ⟨hl, hD, hq⟩
/-! #### _law_square: 0 rule, 1 size, 2 found, 3 e -/

def sp__law_square (T : Txt K mg) : Sp := fun vs H Q _ => ∃ (r dx : Addr) (a b d n : Int), vs = [.ref r, .int n] ∧ H r = some (.ins T.C_Rule dx (fsR a b d)) ∧ n ≤ 1000 ∧ Sz 8000 a ∧ Sz 8000 b ∧
  (n < 1 → ∀ p H', Same H H' → H' p = some (.lst [.str "size", .int n, .bl true]) → Q (.ref p) H') ∧
  (1 ≤ n → ∀ p t qs H', Same H H' → SqAt a b d n.toNat t qs H' → H' p = some (.lst [.str "told", .ref t, .bl true]) → Q (.ref p) H')
theorem len__law_square {vs H Q E} (T : Txt K mg) (h : sp__law_square T vs H Q E) : vs.length = 2 := by obtain ⟨r, dx, a, b, d, n, rfl, _⟩ := h; rfl
theorem use_lsq1 {T : Txt K mg} {H : Hp} {Q : VK} {E : XK} {r dx : Addr} {a b d n : Int} (h1 : H r = some (.ins T.C_Rule dx (fsR a b d))) (ha : Sz 8000 a) (hb : Sz 8000 b) (e : n < 1)
  (k : ∀ p H', Same H H' → H' p = some (.lst [.str "size", .int n, .bl true]) → Q (.ref p) H') : sp__law_square T [.ref r, .int n] H Q E := ⟨r, dx, a, b, d, n, rfl, h1, by omega, ha, hb, fun _ => k, fun z => by omega⟩
theorem use_lsq2 {T : Txt K mg} {H : Hp} {Q : VK} {E : XK} {r dx : Addr} {a b d : Int} (h1 : H r = some (.ins T.C_Rule dx (fsR a b d))) (ha : Sz 8000 a) (hb : Sz 8000 b)
  (k : ∀ p t q H', Same H H' → H' q = some (.lst [.int 0]) → H' t = some (.lst [.ref q]) → H' p = some (.lst [.str "told", .ref t, .bl true]) → Q (.ref p) H') : sp__law_square T [.ref r, .int 1] H Q E :=
  ⟨r, dx, a, b, d, 1, rfl, h1, by omega, ha, hb, fun z => by omega, fun _ p t qs H' s sq hp => by
    obtain ⟨hl, ht, hq⟩ := sq
    match qs, hl, ht, hq with
    | [q], _, ht, hq =>
      have h0 := hq 0 q rfl
      refine k p t q H' s ?_ ht hp
      rw [h0]
      have e : rowV a b d (Int.toNat 1) 0 = [V.int 0] := by
        show [V.int ((a * ((0 : Nat) : Int) + b * ((0 : Nat) : Int) + d) % ((1 : Nat) : Int))] = _
        rw [Int.natCast_one, Int.emod_one]
      rw [e]⟩
local macro_rules | `(tactic| show "own") => `(tactic| (((with_reducible refine' use_lsq1 ?s1 ?s2 ?s3 ?s4 ?nxt); (case s1 => (show "hp")); (case s2 => (show "szf")); (case s3 => (show "szf")); (case s4 => (omega)); (case' nxt => skip)); intro _ _ _ _))
local macro_rules | `(tactic| show "own") => `(tactic| (((with_reducible refine' use_lsq2 ?s1 ?s2 ?s3 ?nxt); (case s1 => (show "hp")); (case s2 => (show "szf")); (case s3 => (show "szf")); (case' nxt => skip)); intro _ _ _ _ _ _ _ _))
theorem ok__law_square (T : Txt K mg) : FnOk P w K mg base CX0 5 T.f__law_square T.fd__law_square ["rule", "size"] (sp__law_square T) := by
  have G_Rule_square : FnOk P w K mg base (L2.CX P w) 4 T.f_Rule_square T.fd_Rule_square ["self", "n"] (sp_Rule_square T) := ok_Rule_square T
  refine T.F__law_square.ok sc__law_square (fun vs H Q E h => ?_) (fun cdv A outer s H vs Q E hr h => ?_)
  · exact len__law_square T h
  · refine ⟨_, (pss_cons (ps_set (i := 2) sc__law_square.nd rfl (Or.inl rfl) (pe_lst (pa_cons pe_str (pa_cons pe_int (pa_cons pe_bl pa_nil)))))
    (pss_cons (ps_tryA (i := 3) rfl rfl sc__law_square.nd rfl rfl takes0 (by intro W pn xe tk po; apply pss_eq; exact (pss_one (ps_set (i := 2) sc__law_square.nd rfl (Or.inl rfl) (pe_lst (pa_cons pe_str (pa_cons (pe_methT (pv 0) T.cl_Rule T.me_Rule_square G_Rule_square (hr.mono (by decide)) T.b_Rule_square (fun σ => passAt tk σ) (pa_cons (pv 1) pa_nil)) (pa_cons pe_bl pa_nil)))))); rfl) (.cons ⟨rfl, by decide, Or.inl T.gC_InvalidSize⟩ (by intro a oe cls d pn hz hf; apply pss_eq; exact (pss_one (ps_set (i := 2) sc__law_square.nd rfl (Or.inl rfl) (pe_lst (pa_cons pe_str (pa_cons (pe_xd (K := K) rfl hz hf (pv 3)) (pa_cons (pe_and (pe_callB (call_isD (K := K) rfl hz hf) (by rfl) T.z_isinstance (by decide +kernel) (pa_cons (pv 3) (pa_cons (pe_bltn (v := .ty "ValueError") (by rfl) T.z_ValueError (by decide +kernel) rfl) pa_nil))) (pe_one (pe_not (pe_callB (call_isD (K := K) rfl hz hf) (by rfl) T.z_isinstance (by decide +kernel) (pa_cons (pv 3) (pa_cons (pe_glob (v := .ref T.C_InvalidCell) rfl T.gC_InvalidCell rfl) pa_nil)))))) pa_nil)))))); rfl) (.cons ⟨rfl, by decide, Or.inl T.gC_SquareError⟩ (by intro a oe cls d pn hz hf; apply pss_eq; exact (pss_one (ps_set (i := 2) sc__law_square.nd rfl (Or.inl rfl) (pe_lst (pa_cons pe_str (pa_cons (pe_xd (K := K) rfl hz hf (pv 3)) (pa_cons pe_bl pa_nil)))))); rfl) .nil)))
    (pss_one (ps_ret (pv 2))))), ?_⟩
    clear hr
    obtain ⟨r, dx, a, b, d, n, rfl, hr, hm, ha, hb, k1, k⟩ := h
    refine st_eq (σ' := [some _, some _, none, none]) rfl ?_
    have hc := T.cl_Rule
    have er_InvalidSize := T.er_InvalidSize
    have vn_InvalidSize := T.vn_InvalidSize
    have kv_InvalidSize := T.kv_InvalidSize
    have kt_InvalidSize_InvalidCell := T.kt_InvalidSize_InvalidCell
    show "go"
    rename_i P HP fP sP hP
    refine ⟨r, dx, a, b, d, n, rfl, by show "hp", hm, ha, hb, fun e dd H1 s1 h1 => ?_, fun e t qs H1 f1 s1 nd tn fq sq => ?_⟩
    · refine we_at ?_
      refine wm_yes T.em_InvalidSize_InvalidSize fun z hz => ?_
      show "go"
      exact k1 e _ _ (by show "same") (by show "hp")
    · show "go"
      refine k e _ t qs _ (by show "same") ⟨sq.1, ?_, fun i q h => ?_⟩ (by show "hp")
      · have h0 := sq.2.1
        show "hp"
      · have h0 := sq.2.2 i q h
        show "hp"
/-! #### _law_no_size: 0 rule, 1 size, 2 places, 3 r, 4 c, 5 found -/
def sp__law_no_size (T : Txt K mg) : Sp := fun vs H Q _ => ∃ (r dx l : Addr) (xs : List V) (a b d n : Int), vs = [.ref r, .int n, .ref l] ∧ H r = some (.ins T.C_Rule dx (fsR a b d)) ∧ Sz 8000 a ∧ Sz 8000 b ∧ n < 1 ∧ H l = some (.lst xs) ∧
  (∀ v ∈ xs, ∃ q x y, v = .ref q ∧ H q = some (.tup [.int x, .int y]) ∧ Sz 9000 x ∧ Sz 9000 y) ∧ ∀ H', Same H H' → Q (.bl true) H' 
theorem len__law_no_size {vs H Q E} (T : Txt K mg) (h : sp__law_no_size T vs H Q E) : vs.length = 3 := by obtain ⟨r, dx, l, xs, a, b, d, n, rfl, _⟩ := h; rfl
theorem use_nosize {T : Txt K mg} {H : Hp} {Q : VK} {E : XK} {r dx l : Addr} {xs : List V} {a b d n : Int} (h1 : H r = some (.ins T.C_Rule dx (fsR a b d))) (ha : Sz 8000 a) (hb : Sz 8000 b) (hn : n < 1) (hl : H l = some (.lst xs)) (hx : TupZ H xs)
  (k : ∀ H', Same H H' → Q (.bl true) H') : sp__law_no_size T [.ref r, .int n, .ref l] H Q E := ⟨r, dx, l, xs, a, b, d, n, rfl, h1, ha, hb, hn, hl, hx.mem, k⟩
local macro_rules | `(tactic| show "own") => `(tactic| (((with_reducible refine' use_nosize ?s1 ?s2 ?s3 ?s4 ?s5 ?s6 ?nxt); (case s1 => (show "hp")); (case s2 => (show "szf")); (case s3 => (show "szf")); (case s4 => (omega)); (case s5 => (show "hp")); (case s6 => (show "tups")); (case' nxt => skip)); intro _ _))
theorem ok__law_no_size (T : Txt K mg) : FnOk P w K mg base CX0 6 T.f__law_no_size T.fd__law_no_size ["rule", "size", "places"] (sp__law_no_size T) := by
  have G__law_base : FnOk P w K mg base CX0 5 T.f__law_base T.fd__law_base ["rule", "size", "r", "c"] (sp__law_base T) := ok__law_base T
  have G__law_sign : FnOk P w K mg base CX0 5 T.f__law_sign T.fd__law_sign ["rule", "size", "r", "c"] (sp__law_sign T) := ok__law_sign T
  have G__law_square : FnOk P w K mg base CX0 5 T.f__law_square T.fd__law_square ["rule", "size"] (sp__law_square T) := ok__law_square T
  have G__law_whole : FnOk P w K mg base CX0 1 T.f__law_whole T.fd__law_whole ["found"] (sp__law_whole T) := ok__law_whole T
  refine T.F__law_no_size.ok sc__law_no_size (fun vs H Q E h => ?_) (fun cdv A outer s H vs Q E hr h => ?_)
  · exact len__law_no_size T h
  · refine ⟨_, (pss_cons (ps_for PassesOwn.never rfl (pi_listK (K := K) rfl (pv 2)) (pg_tlK (K := K) rfl rfl (pgs_cons (pg_name (i := 3) sc__law_no_size.nd rfl (Or.inl rfl)) (pgs_cons (pg_name (i := 4) sc__law_no_size.nd rfl (Or.inl rfl)) pgs_nil))) (pss_cons (ps_set (i := 5) sc__law_no_size.nd rfl (Or.inl rfl) (pe_call G__law_sign (hr.mono (by decide)) rfl T.g__law_sign T.F__law_sign.kp T.b__law_sign .nil pass0 (pa_cons (pv 0) (pa_cons (pv 1) (pa_cons (pv 3) (pa_cons (pv 4) pa_nil))))))
    (pss_one (ps_if (PW.pt (pw_or (pt_not (ptTK (K := K) rfl (pe_call G__law_whole (hr.mono (by decide)) rfl T.g__law_whole T.F__law_whole.kp T.b__law_whole .nil pass0 (pa_cons (pe_ix (ix_seqK (K := K) rfl) (pv 5) pe_int (fun _ _ => rfl)) pa_nil)) (by intro _; rfl))) (pw_or (pt_cmpR (op_neK (K := K) rfl hr.units) (pv 5) (pe_lst (pa_cons pe_str (pa_cons (pv 1) (pa_cons pe_bl pa_nil)))) (nomark _)) (pw_or1 (pt_not (ptTK (K := K) rfl (pe_call G__law_base (hr.mono (by decide)) rfl T.g__law_base T.F__law_base.kp T.b__law_base .nil pass0 (pa_cons (pv 0) (pa_cons (pv 1) (pa_cons (pv 3) (pa_cons (pv 4) pa_nil))))) (by intro _; rfl))))))) (pss_one (ps_ret pe_bl)) pss_nil))))
    (pss_cons (ps_set (i := 5) sc__law_no_size.nd rfl (Or.inl rfl) (pe_call G__law_square (hr.mono (by decide)) rfl T.g__law_square T.F__law_square.kp T.b__law_square .nil pass0 (pa_cons (pv 0) (pa_cons (pv 1) pa_nil))))
    (pss_one (ps_ret (pe_and (pe_call G__law_whole (hr.mono (by decide)) rfl T.g__law_whole T.F__law_whole.kp T.b__law_whole .nil pass0 (pa_cons (pe_ix (ix_seqK (K := K) rfl) (pv 5) pe_int (fun _ _ => rfl)) pa_nil)) (pe_one (pe_cmpR (op_eqK (K := K) rfl hr.units) (pv 5) (pe_lst (pa_cons pe_str (pa_cons (pv 1) (pa_cons pe_bl pa_nil)))) (nomark _)))))))), ?_⟩
    clear hr
    obtain ⟨r, dx, l, xs, a, b, d, n, rfl, hr, sa, sb, hn, hl, hxs, k⟩ := h
    refine st_eq (σ' := [some _, some _, some _, none, none, none]) rfl ?_
    have sa9 : Sz 9000 a := sa.mono (by decide)
    have sb9 : Sz 9000 b := sb.mono (by decide)
    show "go"
    refine f_list (xs := xs) (fun i σ' H' => Same H H' ∧ ∃ v0 v1 v2, σ' = [some (.ref r), some (.int n), some (.ref l), v0, v1, v2]) (SqL.of hl) ⟨Same.refl _, _, _, _, rfl⟩ (fun i σ' H' _ q => SqL.of (q.1 _ _ hl)) ?_ ?_
    · rintro i v σ' H' hi ⟨s1, v0, v1, v2, rfl⟩
      obtain ⟨q, x, y, rfl, hq, sx, sy⟩ := hxs v (List.mem_of_getElem? hi)
      show "go"
      exact ⟨by show "same", _, _, _, rfl⟩
    · rintro σ' H' ⟨s1, v0, v1, v2, rfl⟩
      show "go"
      exact k _ (by show "same")
/-! #### _law_size: 0 pool, 1 shape -/
def sp__law_size (_ : Txt K mg) : Sp := fun vs H Q _ => ∃ (p : Addr) (z : Int), vs = [.ref p] ∧ H p = some (.lst [.int z]) ∧ 0 ≤ z ∧
  ∀ n z' H', 1 ≤ n → n ≤ 10 ^ 30 → 0 ≤ z' → SB p H H' → H' p = some (.lst [.int z']) → Q (.int n) H' 
theorem len__law_size {vs H Q E} (T : Txt K mg) (h : sp__law_size T vs H Q E) : vs.length = 1 := by obtain ⟨p, z, rfl, _⟩ := h; rfl
theorem use_size {T : Txt K mg} {H : Hp} {Q : VK} {E : XK} {p : Addr} {z : Int} (h1 : H p = some (.lst [.int z])) (h2 : 0 ≤ z)
  (k : ∀ n z' H', 1 ≤ n → n ≤ 10 ^ 30 → 0 ≤ z' → SB p H H' → H' p = some (.lst [.int z']) → Q (.int n) H') : sp__law_size T [.ref p] H Q E := ⟨p, z, rfl, h1, h2, k⟩
local macro_rules | `(tactic| show "own") => `(tactic| (((with_reducible refine' use_size ?s1 ?s2 ?nxt); (case s1 => (show "hp")); (case s2 => (assumption)); (case' nxt => skip)); intro _ _ _ _ _ _ _ _))
theorem ok__law_size (T : Txt K mg) : FnOk P w K mg base CX0 2 T.f__law_size T.fd__law_size ["pool"] (sp__law_size T) := by
  have G__law_take : FnOk P w K mg base CX0 1 T.f__law_take T.fd__law_take ["pool", "many"] (sp__law_take T) := ok__law_take T
  refine T.F__law_size.ok sc__law_size (fun vs H Q E h => ?_) (fun cdv A outer s H vs Q E hr h => ?_)
  · exact len__law_size T h
  · refine ⟨_, (pss_cons (ps_set (i := 1) sc__law_size.nd rfl (Or.inl rfl) (pe_call G__law_take (hr.mono (by decide)) rfl T.g__law_take T.F__law_take.kp T.b__law_take .nil pass0 (pa_cons (pv 0) (pa_cons pe_int pa_nil))))
    (pss_cons (ps_if (pt_cmpR (op_eqK (K := K) rfl hr.units) (pv 1) pe_int (nomark _)) (pss_one (ps_ret (pe_op (op_addK (K := K) rfl) pe_int (pe_call G__law_take (hr.mono (by decide)) rfl T.g__law_take T.F__law_take.kp T.b__law_take .nil pass0 (pa_cons (pv 0) (pa_cons pe_int pa_nil)))))) pss_nil)
    (pss_cons (ps_if (pt_cmpR (op_eqK (K := K) rfl hr.units) (pv 1) pe_int (nomark _)) (pss_one (ps_ret (pe_op (op_addK (K := K) rfl) pe_int (pe_call G__law_take (hr.mono (by decide)) rfl T.g__law_take T.F__law_take.kp T.b__law_take .nil pass0 (pa_cons (pv 0) (pa_cons pe_int pa_nil)))))) pss_nil)
    (pss_cons (ps_if (pt_cmpR (op_eqK (K := K) rfl hr.units) (pv 1) pe_int (nomark _)) (pss_one (ps_ret (pe_op op_mulU (pe_op (op_addK (K := K) rfl) pe_int (pe_call G__law_take (hr.mono (by decide)) rfl T.g__law_take T.F__law_take.kp T.b__law_take .nil pass0 (pa_cons (pv 0) (pa_cons pe_int pa_nil)))) (pe_op (op_addK (K := K) rfl) pe_int (pe_call G__law_take (hr.mono (by decide)) rfl T.g__law_take T.F__law_take.kp T.b__law_take .nil pass0 (pa_cons (pv 0) (pa_cons (pe_op op_powU pe_int pe_int) pa_nil))))))) pss_nil)
    (pss_one (ps_ret (pe_op op_subU (pe_op op_powU pe_int pe_int) (pe_call G__law_take (hr.mono (by decide)) rfl T.g__law_take T.F__law_take.kp T.b__law_take .nil pass0 (pa_cons (pv 0) (pa_cons (pe_op op_powU pe_int pe_int) pa_nil)))))))))), ?_⟩
    clear hr
    obtain ⟨p, z, rfl, hp, h0, k⟩ := h
    refine st_eq (σ' := [some _, none]) rfl ?_
    show "go"
    rename_i r z1 H1 hr0 hr4 hz1 sb1 hp1
    refine ifs_2 (fun e1 => ?_) (fun e1 => ?_)
    · show "go"
      exact k _ _ _ (by omega) (by omega) (by assumption) (by show "sb") (by assumption)
    show "go"
    refine ifs_2 (fun e2 => ?_) (fun e2 => ?_)
    · show "go"
      exact k _ _ _ (by omega) (by omega) (by assumption) (by show "sb") (by assumption)
    show "go"
    refine ifs_2 (fun e3 => ?_) (fun e3 => ?_)
    · show "go"
      rename_i u z2 H2 hu0 hu1 hz2 sb2 hp2 w z3 H3 hw0 hw1 hz3 sb3 hp3
      have q1 : 1 * 1 ≤ (1 + u) * (1 + w) := Int.mul_le_mul (by omega) (by omega) (by omega) (by omega)
      have q2 : (1 + u) * (1 + w) ≤ 200 * 1000000000000000000000000000 := Int.mul_le_mul (by omega) (by omega) (by omega) (by omega)
      exact k _ _ _ (by omega) (by omega) (by assumption) (by show "sb") (by assumption)
    show "go"
    exact k _ _ _ (by omega) (by omega) (by assumption) (by show "sb") (by assumption)
/-! #### _law_asked: 0 pool, 1 size, 2 good, 3 far, 4 bad, 5 numbers, 6 rule, 7 less, 8 edges, 9 r, 10 c, 11 low -/
def sp__law_asked (_ : Txt K mg) : Sp := fun vs H Q _ => ∃ (p : Addr) (z : Int), vs = [.ref p] ∧ H p = some (.lst [.int z]) ∧ 0 ≤ z ∧ ∀ H', SB p H H' → Q (.bl true) H' 
theorem len__law_asked {vs H Q E} (T : Txt K mg) (h : sp__law_asked T vs H Q E) : vs.length = 1 := by obtain ⟨p, z, rfl, _⟩ := h; rfl
theorem use_asked {T : Txt K mg} {H : Hp} {Q : VK} {E : XK} {p : Addr} {z : Int} (h1 : H p = some (.lst [.int z])) (h2 : 0 ≤ z) (q : ∀ H', SB p H H' → Q (.bl true) H') : sp__law_asked T [.ref p] H Q E := ⟨p, z, rfl, h1, h2, q⟩
local macro_rules | `(tactic| show "own") => `(tactic| (((with_reducible refine' use_asked ?s1 ?s2 ?nxt); (case s1 => (show "hp")); (case s2 => (assumption)); (case' nxt => skip)); intro _ _))
theorem ok__law_asked (T : Txt K mg) : FnOk P w K mg base CX0 7 T.f__law_asked T.fd__law_asked ["pool"] (sp__law_asked T) := by
  have G_Rule___init__ : FnOk P w K mg base CX0 1 T.f_Rule___init__ T.fd_Rule___init__ ["self", "a", "b", "d"] (sp_Rule___init__ T) := ok_Rule___init__ T
  have G__law_bad_place : FnOk P w K mg base CX0 2 T.f__law_bad_place T.fd__law_bad_place ["pool", "size"] (sp__law_bad_place T) := ok__law_bad_place T
  have G__law_good : FnOk P w K mg base CX0 6 T.f__law_good T.fd__law_good ["rule", "numbers", "size", "places"] (sp__law_good T) := ok__law_good T
  have G__law_near : FnOk P w K mg base CX0 2 T.f__law_near T.fd__law_near ["pool", "most"] (sp__law_near T) := ok__law_near T
  have G__law_no_cell : FnOk P w K mg base CX0 6 T.f__law_no_cell T.fd__law_no_cell ["rule", "size", "r", "c"] (sp__law_no_cell T) := ok__law_no_cell T
  have G__law_no_size : FnOk P w K mg base CX0 6 T.f__law_no_size T.fd__law_no_size ["rule", "size", "places"] (sp__law_no_size T) := ok__law_no_size T
  have G__law_size : FnOk P w K mg base CX0 2 T.f__law_size T.fd__law_size ["pool"] (sp__law_size T) := ok__law_size T
  have G__law_square : FnOk P w K mg base CX0 5 T.f__law_square T.fd__law_square ["rule", "size"] (sp__law_square T) := ok__law_square T
  have G__law_take : FnOk P w K mg base CX0 1 T.f__law_take T.fd__law_take ["pool", "many"] (sp__law_take T) := ok__law_take T
  refine T.F__law_asked.ok sc__law_asked (fun vs H Q E h => ?_) (fun cdv A outer s H vs Q E hr h => ?_)
  · exact len__law_asked T h
  · refine ⟨_, (pss_cons (ps_set (i := 1) sc__law_asked.nd rfl (Or.inl rfl) (pe_call G__law_size (hr.mono (by decide)) rfl T.g__law_size T.F__law_size.kp T.b__law_size .nil pass0 (pa_cons (pv 0) pa_nil)))
    (pss_cons (ps_set (i := 2) sc__law_asked.nd rfl (Or.inl rfl) (pe_tup (pa_cons (pe_call G__law_take (hr.mono (by decide)) rfl T.g__law_take T.F__law_take.kp T.b__law_take .nil pass0 (pa_cons (pv 0) (pa_cons (pv 1) pa_nil))) (pa_cons (pe_call G__law_take (hr.mono (by decide)) rfl T.g__law_take T.F__law_take.kp T.b__law_take .nil pass0 (pa_cons (pv 0) (pa_cons (pv 1) pa_nil))) pa_nil))))
    (pss_cons (ps_set (i := 3) sc__law_asked.nd rfl (Or.inl rfl) (pe_call G__law_take (hr.mono (by decide)) rfl T.g__law_take T.F__law_take.kp T.b__law_take .nil pass0 (pa_cons (pv 0) (pa_cons (pe_op op_powU pe_int pe_int) pa_nil))))
    (pss_cons (ps_set (i := 4) sc__law_asked.nd rfl (Or.inl rfl) (pe_tup (pa_cons (pe_call G__law_bad_place (hr.mono (by decide)) rfl T.g__law_bad_place T.F__law_bad_place.kp T.b__law_bad_place .nil pass0 (pa_cons (pv 0) (pa_cons (pv 1) pa_nil))) (pa_cons (pe_call G__law_bad_place (hr.mono (by decide)) rfl T.g__law_bad_place T.F__law_bad_place.kp T.b__law_bad_place .nil pass0 (pa_cons (pv 0) (pa_cons (pv 1) pa_nil))) pa_nil))))
    (pss_cons (ps_set (i := 5) sc__law_asked.nd rfl (Or.inl rfl) (pe_lst (pa_cons (pe_call G__law_near (hr.mono (by decide)) rfl T.g__law_near T.F__law_near.kp T.b__law_near .nil pass0 (pa_cons (pv 0) (pa_cons (pe_op op_subU (pe_op op_powU pe_int pe_int) pe_int) pa_nil))) (pa_cons (pe_call G__law_near (hr.mono (by decide)) rfl T.g__law_near T.F__law_near.kp T.b__law_near .nil pass0 (pa_cons (pv 0) (pa_cons pe_int pa_nil))) (pa_cons (pe_call G__law_near (hr.mono (by decide)) rfl T.g__law_near T.F__law_near.kp T.b__law_near .nil pass0 (pa_cons (pv 0) (pa_cons (pe_op op_powU pe_int pe_int) pa_nil))) pa_nil)))))
    (pss_cons (ps_set (i := 6) sc__law_asked.nd rfl (Or.inl rfl) (pe_make T.mk_Rule G_Rule___init__ (hr.mono (by decide)) rfl T.gC_Rule T.b_Rule___init__ .nil pass0 (pa_cons (pe_ix (ix_seqK (K := K) rfl) (pv 5) pe_int (fun _ _ => rfl)) (pa_cons (pe_ix (ix_seqK (K := K) rfl) (pv 5) pe_int (fun _ _ => rfl)) (pa_cons (pe_ix (ix_seqK (K := K) rfl) (pv 5) pe_int (fun _ _ => rfl)) pa_nil)))))
    (pss_cons (ps_set (i := 7) sc__law_asked.nd rfl (Or.inl rfl) (pe_op (op_addK (K := K) rfl) pe_int (pe_op op_fdivU (pv 1) pe_int)))
    (pss_cons (ps_set (i := 8) sc__law_asked.nd rfl (Or.inl rfl) (pe_lst (pa_cons (pe_tup (pa_cons (pv 1) (pa_cons pe_int pa_nil))) (pa_cons (pe_tup (pa_cons pe_int (pa_cons (pv 1) pa_nil))) (pa_cons (pe_tup (pa_cons (pe_un un_neg pe_int) (pa_cons (pe_op op_subU (pv 1) pe_int) pa_nil))) (pa_cons (pe_tup (pa_cons (pe_op op_subU (pv 1) pe_int) (pa_cons (pe_un un_neg pe_int) pa_nil))) pa_nil))))))
    (pss_cons (ps_for PassesOwn.never rfl (pi_listK (K := K) rfl (pe_op (op_addK (K := K) rfl) (pv 8) (pe_lst (pa_cons (pe_tup (pa_cons (pe_ix (ix_seqK (K := K) rfl) (pv 4) pe_int (fun _ _ => rfl)) (pa_cons (pe_ix (ix_seqK (K := K) rfl) (pv 2) pe_int (fun _ _ => rfl)) pa_nil))) (pa_cons (pe_tup (pa_cons (pe_ix (ix_seqK (K := K) rfl) (pv 2) pe_int (fun _ _ => rfl)) (pa_cons (pe_ix (ix_seqK (K := K) rfl) (pv 4) pe_int (fun _ _ => rfl)) pa_nil))) (pa_cons (pv 4) pa_nil)))))) (pg_tlK (K := K) rfl rfl (pgs_cons (pg_name (i := 9) sc__law_asked.nd rfl (Or.inl rfl)) (pgs_cons (pg_name (i := 10) sc__law_asked.nd rfl (Or.inl rfl)) pgs_nil))) (pss_cons (ps_if (PW.pt (pw_or (pt_not (ptTK (K := K) rfl (pe_call G__law_good (hr.mono (by decide)) rfl T.g__law_good T.F__law_good.kp T.b__law_good .nil pass0 (pa_cons (pv 6) (pa_cons (pv 5) (pa_cons (pv 7) (pa_cons (pe_lst (pa_cons (pv 2) pa_nil)) pa_nil))))) (by intro _; rfl))) (pw_or1 (pt_not (ptTK (K := K) rfl (pe_call G__law_no_cell (hr.mono (by decide)) rfl T.g__law_no_cell T.F__law_no_cell.kp T.b__law_no_cell .nil pass0 (pa_cons (pv 6) (pa_cons (pv 1) (pa_cons (pv 9) (pa_cons (pv 10) pa_nil))))) (by intro _; rfl)))))) (pss_one (ps_ret pe_bl)) pss_nil)
    (pss_one (ps_if (pt_not (ptTK (K := K) rfl (pe_call G__law_good (hr.mono (by decide)) rfl T.g__law_good T.F__law_good.kp T.b__law_good .nil pass0 (pa_cons (pv 6) (pa_cons (pv 5) (pa_cons (pv 1) (pa_cons (pe_lst (pa_cons (pv 2) (pa_cons (pe_tup (pa_cons pe_int (pa_cons pe_int pa_nil))) (pa_cons (pe_tup (pa_cons (pe_op op_subU (pv 1) pe_int) (pa_cons (pe_op op_subU (pv 1) pe_int) pa_nil))) pa_nil)))) pa_nil))))) (by intro _; rfl))) (pss_one (ps_ret pe_bl)) pss_nil))))
    (pss_cons (ps_for PassesOwn.never rfl (pi_listK (K := K) rfl (pe_lst (pa_cons pe_int (pa_cons (pe_un un_neg pe_int) (pa_cons (pe_op op_subU (pe_un un_neg pe_int) (pv 3)) pa_nil))))) (pg_name (i := 11) sc__law_asked.nd rfl (Or.inl rfl)) (pss_cons (ps_if (pt_not (ptTK (K := K) rfl (pe_call G__law_no_size (hr.mono (by decide)) rfl T.g__law_no_size T.F__law_no_size.kp T.b__law_no_size .nil pass0 (pa_cons (pv 6) (pa_cons (pv 11) (pa_cons (pe_lst (pa_cons (pv 2) (pa_cons (pv 4) (pa_cons (pe_tup (pa_cons pe_int (pa_cons pe_int pa_nil))) (pa_cons (pe_tup (pa_cons (pv 11) (pa_cons (pv 11) pa_nil))) pa_nil))))) pa_nil)))) (by intro _; rfl))) (pss_one (ps_ret pe_bl)) pss_nil)
    (pss_one (ps_if (PW.pt (pw_or (pt_not (ptTK (K := K) rfl (pe_call G__law_good (hr.mono (by decide)) rfl T.g__law_good T.F__law_good.kp T.b__law_good .nil pass0 (pa_cons (pv 6) (pa_cons (pv 5) (pa_cons (pv 1) (pa_cons (pe_lst (pa_cons (pv 2) pa_nil)) pa_nil))))) (by intro _; rfl))) (pw_or1 (pt_not (ptTK (K := K) rfl (pe_call G__law_good (hr.mono (by decide)) rfl T.g__law_good T.F__law_good.kp T.b__law_good .nil pass0 (pa_cons (pv 6) (pa_cons (pv 5) (pa_cons (pv 7) (pa_cons (pe_lst (pa_cons (pv 2) pa_nil)) pa_nil))))) (by intro _; rfl)))))) (pss_one (ps_ret pe_bl)) pss_nil))))
    (pss_one (ps_ret (pe_cmpR (op_eqK (K := K) rfl hr.units) (pe_call G__law_square (hr.mono (by decide)) rfl T.g__law_square T.F__law_square.kp T.b__law_square .nil pass0 (pa_cons (pv 6) (pa_cons pe_int pa_nil))) (pe_lst (pa_cons pe_str (pa_cons (pe_lst (pa_cons (pe_lst (pa_cons pe_int pa_nil)) pa_nil)) (pa_cons pe_bl pa_nil)))) (nomark _)))))))))))))), ?_⟩
    clear hr
    obtain ⟨pl, zl, rfl, hpl, h0, kk⟩ := h
    refine st_eq (σ' := [some _, none, none, none, none, none, none, none, none, none, none, none]) rfl ?_
    show "go"
    rename_i nn znn Hnn nn1 nn2 zznn sbnn pnn ga zga Hga ga1 ga2 zzga sbga pga gb zgb Hgb gb1 gb2 zzgb sbgb pgb G HG G1 G2 G3 fa zfa Hfa fa1 fa2 zzfa sbfa pfa ba zba Hba ba1 ba2 zzba sbba pba bb zbb Hbb bb1 bb2 zzbb sbbb pbb B HB B1 B2 B3 a za Ha a1 a2 zza sba pa b zb Hb b1 b2 zzb sbb pb d zd Hd d1 d2 zzd sbd pd m Hm m1 m2 m3 r dxr Hr r1 r2 r3 ea Hea ea1 ea2 ea3 eb Heb eb1 eb2 eb3 ec Hec ec1 ec2 ec3 ed Hed ed1 ed2 ed3 el Hel el1 el2 el3 ta Hta ta1 ta2 ta3 tb Htb tb1 tb2 tb3 tl Htl tl1 tl2 tl3 L HL L1 L2 L3
    simp only [List.cons_append, List.nil_append] at L3
    have bz : BadZ nn HL [.ref ea, .ref eb, .ref ec, .ref ed, .ref ta, .ref tb, .ref B] := by show "bads"
    refine f_list (xs := [.ref ea, .ref eb, .ref ec, .ref ed, .ref ta, .ref tb, .ref B]) (fun i σ' H' => Same HL H' ∧ ∃ v0 v1 v2, σ' = [some (.ref pl), some (.int nn), some (.ref G), some (.int fa), some (.ref B), some (.ref m), some (.ref r), some (.int (1 + nn / 2)), some (.ref el), v0, v1, v2]) (SqL.of L3) ⟨Same.refl _, _, _, _, rfl⟩ (fun i σ' H' _ q => SqL.of (q.1 _ _ L3)) ?_ ?_
    · rintro i v σ' H' hi ⟨s1, v0, v1, v2, rfl⟩
      obtain ⟨q, x, y, rfl, hq, sx, sy, hb⟩ := bz.mem v (List.mem_of_getElem? hi)
      show "go"
      exact ⟨by show "same", _, _, _, rfl⟩
    · rintro σ' H' ⟨s1, v0, v1, v2, rfl⟩
      show "go"
      rename_i W HW W1 W2 W3
      refine f_list (xs := [.int 0, .int (-1), .int (-2 - fa)]) (fun i σ' H2 => Same HW H2 ∧ ∃ v0 v1 v2, σ' = [some (.ref pl), some (.int nn), some (.ref G), some (.int fa), some (.ref B), some (.ref m), some (.ref r), some (.int (1 + nn / 2)), some (.ref el), v0, v1, v2]) (SqL.of W3) ⟨Same.refl _, _, _, _, rfl⟩ (fun i σ' H2 _ q => SqL.of (q.1 _ _ W3)) ?_ ?_
      · rintro i v σ' H2 hi ⟨s2, v0, v1, v2, rfl⟩
        have hv := List.mem_of_getElem? hi
        obtain ⟨low, rfl, l1, l2⟩ : ∃ low : Int, v = .int low ∧ low < 1 ∧ -(10 ^ 40) ≤ low := by
          simp only [List.mem_cons, List.not_mem_nil, or_false] at hv
          rcases hv with rfl | rfl | rfl <;> exact ⟨_, rfl, by omega, by omega⟩
        show "go"
        exact ⟨by show "same", _, _, _, rfl⟩
      · rintro σ' H2 ⟨s2, v0, v1, v2, rfl⟩
        show "go"
        exact kk _ (by show "sb")
/-! #### _law_pool: 0 script, 1 k, 2 cell, 3 part, 4 blend, 5 turn -/
def sp__law_pool (_ : Txt K mg) : Sp := fun vs H Q _ => ∃ (a : Addr) (ns : List Int) (k : Int), vs = [.ref a, .int k] ∧ SqL K H a (ns.map V.int) ∧ 0 ≤ k ∧ k < 1000 ∧
  ∀ p z H', 0 ≤ z → Fr H p → Same H H' → H' p = some (.lst [.int z]) → Q (.ref p) H' 
theorem len__law_pool {vs H Q E} (T : Txt K mg) (h : sp__law_pool T vs H Q E) : vs.length = 2 := by obtain ⟨a, ns, k, rfl, _⟩ := h; rfl
theorem use_pool {T : Txt K mg} {H : Hp} {Q : VK} {E : XK} {a : Addr} {ns : List Int} {k : Int} (h1 : SqL K H a (ns.map V.int)) (h2 : 0 ≤ k) (h3 : k < 1000)
  (q : ∀ p z H', 0 ≤ z → Fr H p → Same H H' → H' p = some (.lst [.int z]) → Q (.ref p) H') : sp__law_pool T [.ref a, .int k] H Q E := ⟨a, ns, k, rfl, h1, h2, h3, q⟩
local macro_rules | `(tactic| show "own") => `(tactic| (((with_reducible refine' use_pool ?s1 ?s2 ?s3 ?nxt); (case s1 => (show "hq")); (case s2 => (omega)); (case s3 => (omega)); (case' nxt => skip)); intro _ _ _ _ _ _ _))
theorem ok__law_pool (T : Txt K mg) : FnOk P w K mg base CX0 1 T.f__law_pool T.fd__law_pool ["script", "k"] (sp__law_pool T) := by
  refine T.F__law_pool.ok sc__law_pool (fun vs H Q E h => ?_) (fun cdv A outer s H vs Q E hr h => ?_)
  · exact len__law_pool T h
  · refine ⟨_, (pss_cons (ps_set (i := 2) sc__law_pool.nd rfl (Or.inl rfl) (pe_ifExp (pt_cmpR op_ltU (pv 1) (pe_callB (c_lenK (K := K) rfl) (by rfl) T.z_len (by decide +kernel) (pa_cons (pv 0) pa_nil)) (nomark _)) (pe_ix (ix_seqK (K := K) rfl) (pv 0) (pv 1) (fun _ _ => rfl)) (pe_op (op_addK (K := K) rfl) (pe_op op_mulU pe_int (pv 1)) pe_int)))
    (pss_cons (ps_if (pt_cmpR op_geU (pv 2) (pe_op op_powU pe_int pe_int) (nomark _)) (pss_one (ps_ret (pe_lst (pa_cons (pe_op op_subU (pv 2) (pe_op op_powU pe_int pe_int)) pa_nil)))) pss_nil)
    (pss_cons (ps_set (i := 3) sc__law_pool.nd rfl (Or.inl rfl) (pe_op op_modU (pe_callTy c_int1 (by rfl) T.z_int (by decide +kernel) (pa_cons (pv 2) pa_nil)) pe_int))
    (pss_cons (ps_set (i := 4) sc__law_pool.nd rfl (Or.inl rfl) pe_int)
    (pss_cons (ps_for PassesOwn.never rfl (pi_range1 rfl T.z_range (pa_cons pe_int pa_nil)) (pg_name (i := 5) sc__law_pool.nd rfl (Or.inl rfl)) (pss_cons (ps_set (i := 3) sc__law_pool.nd rfl (Or.inl rfl) (pe_op op_modU (pe_callTy c_int1 (by rfl) T.z_int (by decide +kernel) (pa_cons (pe_op (op_addK (K := K) rfl) (pe_op (op_addK (K := K) rfl) (pe_op (op_addK (K := K) rfl) (pe_op op_mulU (pv 3) (pe_op (op_addK (K := K) rfl) (pv 3) pe_int)) (pe_op op_mulU pe_int (pv 5))) (pe_op op_mulU pe_int (pv 1))) pe_int) pa_nil)) pe_int))
    (pss_one (ps_set (i := 4) sc__law_pool.nd rfl (Or.inl rfl) (pe_op (op_addK (K := K) rfl) (pe_op op_mulU (pv 4) pe_int) (pv 3))))))
    (pss_one (ps_ret (pe_lst (pa_cons (pv 4) pa_nil))))))))), ?_⟩
    clear hr
    obtain ⟨a, ns, k, rfl, hS, h0, h1, q⟩ := h
    refine st_eq (σ' := [some _, some _, none, none, none, none]) rfl ?_
    show "go"
    refine ife_val (F := fun v => ∃ c : Int, v = .int c) (fun hk => ?_) (fun hk => ?_) ?_
    · obtain ⟨c, hc⟩ := ix_int hS h0 hk
      refine ⟨_, ⟨c, rfl⟩, fun Q q => ?_⟩
      show "go"
      exact hc _ q
    · refine ⟨_, ⟨5 * k + 2, rfl⟩, fun Q q => ?_⟩
      show "go"
      exact q
    rintro v ⟨c, rfl⟩
    show "go"
    refine ifs_2 (fun e1 => ?_) (fun e1 => ?_)
    · show "go"
      refine q _ _ _ ?_ ‹_› (by show "same") (by assumption)
      omega
    show "go"
    have hp0 : 0 ≤ c % 2305843009213693951 := Int.emod_nonneg _ (by omega)
    have hp1 : c % 2305843009213693951 < 2305843009213693951 := Int.emod_lt_of_pos _ (by omega)
    refine f_rng1 (fun i σ' H' => H' = H ∧ ∃ part blend v, σ' = [some (.ref a), some (.int k), some (.int c), some (.int part), some (.int blend), v] ∧ 0 ≤ part ∧ part < 2305843009213693951 ∧ 0 ≤ blend) (by omega) (by omega) ⟨rfl, _, _, _, rfl, hp0, hp1, by omega⟩ ?_ ?_
    · rintro i σ' H' hi ⟨rfl, part, blend, v, rfl, p0, p1, b0⟩
      show "go"
      exact ⟨rfl, _, _, _, rfl, Int.emod_nonneg _ (by omega), Int.lt_trans (Int.emod_lt_of_pos _ (by omega)) (by omega), Int.add_nonneg (Int.mul_nonneg b0 (by omega)) (Int.emod_nonneg _ (by omega))⟩
    · rintro σ' H' ⟨rfl, part, blend, v, rfl, p0, p1, b0⟩
      show "go"
      exact q _ _ _ b0 ‹_› ‹_› ‹_›
/-! #### law: 0 script, 1 k -/
def spLaw (K : PySem.W.Frag) : Sp := fun vs H Q _ => ∃ (a : Addr) (ns : List Int), vs = [.ref a] ∧ SqL K H a (ns.map V.int) ∧ ns.length ≤ 63 ∧ ∀ H', Q (.bl true) H'
def sp_law (_ : Txt K mg) : Sp := spLaw K
theorem law_imp (T : Txt K mg) : ∀ vs H Q E, spLaw K vs H Q E → sp_law T vs H Q E := fun _ _ _ _ h => h
theorem len_law {vs H Q E} (T : Txt K mg) (h : sp_law T vs H Q E) : vs.length = 1 := by obtain ⟨a, ns, rfl, _⟩ := h; rfl
theorem ok_law (T : Txt K mg) : FnOk P w K mg base CX0 8 T.f_law T.fd_law ["script"] (sp_law T) := by
  have G__law_asked : FnOk P w K mg base CX0 7 T.f__law_asked T.fd__law_asked ["pool"] (sp__law_asked T) := ok__law_asked T
  have G__law_pool : FnOk P w K mg base CX0 1 T.f__law_pool T.fd__law_pool ["script", "k"] (sp__law_pool T) := ok__law_pool T
  refine T.F_law.ok sc_law (fun vs H Q E h => ?_) (fun cdv A outer s H vs Q E hr h => ?_)
  · exact len_law T h
  · refine ⟨_, (pss_cons (ps_for PassesOwn.never rfl (pi_range1 rfl T.z_range (pa_cons (pe_callB (c_max2 rfl) (by rfl) T.z_max (by decide +kernel) (pa_cons pe_int (pa_cons (pe_callB (c_min2 rfl) (by rfl) T.z_min (by decide +kernel) (pa_cons (pe_callB (c_lenK (K := K) rfl) (by rfl) T.z_len (by decide +kernel) (pa_cons (pv 0) pa_nil)) (pa_cons pe_int pa_nil))) pa_nil))) pa_nil)) (pg_name (i := 1) sc_law.nd rfl (Or.inl rfl)) (pss_one (ps_if (pt_not (ptTK (K := K) rfl (pe_call G__law_asked (hr.mono (by decide)) rfl T.g__law_asked T.F__law_asked.kp T.b__law_asked .nil pass0 (pa_cons (pe_call G__law_pool (hr.mono (by decide)) rfl T.g__law_pool T.F__law_pool.kp T.b__law_pool .nil pass0 (pa_cons (pv 0) (pa_cons (pv 1) pa_nil))) pa_nil)) (by intro _; rfl))) (pss_one (ps_ret pe_bl)) pss_nil)))
    (pss_one (ps_ret pe_bl))), ?_⟩
    clear hr
    obtain ⟨a, ns, rfl, hS, hl, q⟩ := h
    refine st_eq (σ' := [some _, none]) rfl ?_
    show "go"
    refine f_rng1 (fun i σ' H' => Same H H' ∧ ∃ v, σ' = [some (.ref a), v]) (by (repeat' split) <;> omega) (by (repeat' split) <;> omega) ⟨Same.refl _, _, rfl⟩ ?_ ?_
    · rintro i σ' H' hi ⟨s1, v, rfl⟩
      have hi2 : (i : Int) < 12 := by
        revert hi
        repeat' split
        all_goals omega
      show "go"
      exact ⟨(‹Same H H'›.trans (SB.same ‹_› ‹_› ‹_›)), _, rfl⟩
    · rintro σ' H' ⟨s1, v, rfl⟩
      show "go"
      exact q _
end
/-! ### the end -/
theorem all_mk {l : PySem.W.OpenLaw} {w : World} {K : PySem.W.Frag} {h : Heap} {mg : Str → Option Value} {fa : Addr} (X : K.In h) (G : h.Ns mainGlobals mg) (hfa : mg "law" = some (.ref fa))
    {C_InvalidCell C_InvalidNumber C_InvalidSize C_InvalidTurn C_Rule C_SquareError f_Rule___init__ f__law_take f__law_bad_place f_Rule__value f_SquareError___init__ f_check_cell f_check_size f_Rule_sign f__law_sign f__law_whole f__law_good f__law_near f__law_base f__law_no_cell f_Rule_square f__law_square f__law_no_size f__law_size f__law_asked f__law_pool f_law : Addr}
    {od_Rule___init__ an_Rule___init__ od__law_take an__law_take od__law_bad_place an__law_bad_place od_Rule__value an_Rule__value od_SquareError___init__ an_SquareError___init__ od_check_cell an_check_cell od_check_size an_check_size od_Rule_sign an_Rule_sign od__law_sign an__law_sign od__law_whole an__law_whole od__law_good an__law_good od__law_near an__law_near od__law_base an__law_base od__law_no_cell an__law_no_cell od_Rule_square an_Rule_square od__law_square an__law_square od__law_no_size an__law_no_size od__law_size an__law_size od__law_asked an__law_asked od__law_pool an__law_pool od_law an_law : Option Addr} {sl_Rule___init__ sl__law_take sl__law_bad_place sl_Rule__value sl_SquareError___init__ sl_check_cell sl_check_size sl_Rule_sign sl__law_sign sl__law_whole sl__law_good sl__law_near sl__law_base sl__law_no_cell sl_Rule_square sl__law_square sl__law_no_size sl__law_size sl__law_asked sl__law_pool sl_law : Array (Option Value)} {oc_Rule___init__ kV_Rule___init__ dc_Rule___init__ pm_Rule___init__ cd_Rule___init__ ct_Rule___init__ oc__law_take kV__law_take dc__law_take pm__law_take cd__law_take ct__law_take oc__law_bad_place kV__law_bad_place dc__law_bad_place pm__law_bad_place cd__law_bad_place ct__law_bad_place oc_Rule__value kV_Rule__value dc_Rule__value pm_Rule__value cd_Rule__value ct_Rule__value oc_SquareError___init__ kV_SquareError___init__ dc_SquareError___init__ pm_SquareError___init__ cd_SquareError___init__ ct_SquareError___init__ oc_check_cell kV_check_cell dc_check_cell pm_check_cell cd_check_cell ct_check_cell oc_check_size kV_check_size dc_check_size pm_check_size cd_check_size ct_check_size oc_Rule_sign kV_Rule_sign dc_Rule_sign pm_Rule_sign cd_Rule_sign ct_Rule_sign oc__law_sign kV__law_sign dc__law_sign pm__law_sign cd__law_sign ct__law_sign oc__law_whole kV__law_whole dc__law_whole pm__law_whole cd__law_whole ct__law_whole oc__law_good kV__law_good dc__law_good pm__law_good cd__law_good ct__law_good oc__law_near kV__law_near dc__law_near pm__law_near cd__law_near ct__law_near oc__law_base kV__law_base dc__law_base pm__law_base cd__law_base ct__law_base oc__law_no_cell kV__law_no_cell dc__law_no_cell pm__law_no_cell cd__law_no_cell ct__law_no_cell oc_Rule_square kV_Rule_square dc_Rule_square pm_Rule_square cd_Rule_square ct_Rule_square oc__law_square kV__law_square dc__law_square pm__law_square cd__law_square ct__law_square oc__law_no_size kV__law_no_size dc__law_no_size pm__law_no_size cd__law_no_size ct__law_no_size oc__law_size kV__law_size dc__law_size pm__law_size cd__law_size ct__law_size oc__law_asked kV__law_asked dc__law_asked pm__law_asked cd__law_asked ct__law_asked oc__law_pool kV__law_pool dc__law_pool pm__law_pool cd__law_pool ct__law_pool oc_law kV_law dc_law pm_law cd_law ct_law : Value}
    {nm_InvalidSize q_InvalidSize : Str} {N_InvalidSize : Addr} {bs_InvalidSize sub_InvalidSize : List Value} {sn_InvalidSize : List Str} {ab_InvalidSize : Bool} {col_InvalidSize : Option Bool} {dd_InvalidSize : Option Addr} {k0_InvalidSize k1_InvalidSize k2_InvalidSize k3_InvalidSize k5_InvalidSize : Option Value}
    {nm_InvalidCell q_InvalidCell : Str} {N_InvalidCell : Addr} {bs_InvalidCell sub_InvalidCell : List Value} {sn_InvalidCell : List Str} {ab_InvalidCell : Bool} {col_InvalidCell : Option Bool} {dd_InvalidCell : Option Addr} {k0_InvalidCell k1_InvalidCell k2_InvalidCell k3_InvalidCell k5_InvalidCell : Option Value}
    (aC_InvalidCell : PySem.W.nsIn K mainGlobals "InvalidCell" = some (some (.ref C_InvalidCell)))
    (aC_InvalidNumber : PySem.W.nsIn K mainGlobals "InvalidNumber" = some (some (.ref C_InvalidNumber)))
    (aC_InvalidSize : PySem.W.nsIn K mainGlobals "InvalidSize" = some (some (.ref C_InvalidSize)))
    (aC_InvalidTurn : PySem.W.nsIn K mainGlobals "InvalidTurn" = some (some (.ref C_InvalidTurn)))
    (aC_Rule : PySem.W.nsIn K mainGlobals "Rule" = some (some (.ref C_Rule)))
    (pg_Rule : PySem.W.plainGet K C_Rule Str.empty = true)
    (hd_Rule : PySem.W.hasDictIn K C_Rule = true)
    (po_Rule : PySem.W.plainOver K C_Rule = true)
    (sa_Rule : PySem.W.findIn K (.ref C_Rule) "__setattr__" = some (some (.builtin "object.__setattr__")))
    (ma_Rule : PySem.W.makesIn K C_Rule = true)
    (kC_Rule : PySem.W.keepIn K (.ref C_Rule) = true)
    (aC_SquareError : PySem.W.nsIn K mainGlobals "SquareError" = some (some (.ref C_SquareError)))
    (n_Rule_a : PySem.W.findIn K (.ref C_Rule) "_a" = some none)
    (n_Rule_b : PySem.W.findIn K (.ref C_Rule) "_b" = some none)
    (n_Rule_d : PySem.W.findIn K (.ref C_Rule) "_d" = some none)
    (a_Rule___init__ : PySem.W.findIn K (.ref C_Rule) "__init__" = some (some (.ref f_Rule___init__)))
    (i_Rule___init__ : PySem.W.isFn K (.ref f_Rule___init__) = true)
    (l_Rule___init__ : K.lookup f_Rule___init__ = some ⟨oc_Rule___init__, od_Rule___init__, .func (PySem.W.fnOf "__init__" "Rule.__init__" (defArgs s_Rule___init__) (defBody s_Rule___init__) (defScope s_Rule___init__) .none kV_Rule___init__ dc_Rule___init__ pm_Rule___init__ an_Rule___init__ cd_Rule___init__ ct_Rule___init__), sl_Rule___init__⟩)
    (c_Rule___init__ : PySem.W.codeIn K cd_Rule___init__ "Rule.__init__" = true)
    (k_Rule___init__ : PySem.W.keepIn K (.ref f_Rule___init__) = true)
    (a__law_take : PySem.W.nsIn K mainGlobals "_law_take" = some (some (.ref f__law_take)))
    (l__law_take : K.lookup f__law_take = some ⟨oc__law_take, od__law_take, .func (PySem.W.fnOf "_law_take" "_law_take" (defArgs s__law_take) (defBody s__law_take) (defScope s__law_take) .none kV__law_take dc__law_take pm__law_take an__law_take cd__law_take ct__law_take), sl__law_take⟩)
    (c__law_take : PySem.W.codeIn K cd__law_take "_law_take" = true)
    (k__law_take : PySem.W.keepIn K (.ref f__law_take) = true)
    (a__law_bad_place : PySem.W.nsIn K mainGlobals "_law_bad_place" = some (some (.ref f__law_bad_place)))
    (l__law_bad_place : K.lookup f__law_bad_place = some ⟨oc__law_bad_place, od__law_bad_place, .func (PySem.W.fnOf "_law_bad_place" "_law_bad_place" (defArgs s__law_bad_place) (defBody s__law_bad_place) (defScope s__law_bad_place) .none kV__law_bad_place dc__law_bad_place pm__law_bad_place an__law_bad_place cd__law_bad_place ct__law_bad_place), sl__law_bad_place⟩)
    (c__law_bad_place : PySem.W.codeIn K cd__law_bad_place "_law_bad_place" = true)
    (k__law_bad_place : PySem.W.keepIn K (.ref f__law_bad_place) = true)
    (a_Rule__value : PySem.W.findIn K (.ref C_Rule) "_value" = some (some (.ref f_Rule__value)))
    (i_Rule__value : PySem.W.isFn K (.ref f_Rule__value) = true)
    (l_Rule__value : K.lookup f_Rule__value = some ⟨oc_Rule__value, od_Rule__value, .func (PySem.W.fnOf "_value" "Rule._value" (defArgs s_Rule__value) (defBody s_Rule__value) (defScope s_Rule__value) .none kV_Rule__value dc_Rule__value pm_Rule__value an_Rule__value cd_Rule__value ct_Rule__value), sl_Rule__value⟩)
    (c_Rule__value : PySem.W.codeIn K cd_Rule__value "Rule._value" = true)
    (k_Rule__value : PySem.W.keepIn K (.ref f_Rule__value) = true)
    (a_SquareError___init__ : PySem.W.findIn K (.ref C_SquareError) "__init__" = some (some (.ref f_SquareError___init__)))
    (i_SquareError___init__ : PySem.W.isFn K (.ref f_SquareError___init__) = true)
    (t_SquareError___init__ : PySem.W.typeIn K (.ref f_SquareError___init__) = some (.type "function"))
    (l_SquareError___init__ : K.lookup f_SquareError___init__ = some ⟨oc_SquareError___init__, od_SquareError___init__, .func (PySem.W.fnOf "__init__" "SquareError.__init__" (defArgs s_SquareError___init__) (defBody s_SquareError___init__) (defScope s_SquareError___init__) .none kV_SquareError___init__ dc_SquareError___init__ pm_SquareError___init__ an_SquareError___init__ cd_SquareError___init__ ct_SquareError___init__), sl_SquareError___init__⟩)
    (c_SquareError___init__ : PySem.W.codeIn K cd_SquareError___init__ "SquareError.__init__" = true)
    (k_SquareError___init__ : PySem.W.keepIn K (.ref f_SquareError___init__) = true)
    (a_check_cell : PySem.W.nsIn K mainGlobals "check_cell" = some (some (.ref f_check_cell)))
    (l_check_cell : K.lookup f_check_cell = some ⟨oc_check_cell, od_check_cell, .func (PySem.W.fnOf "check_cell" "check_cell" (defArgs s_check_cell) (defBody s_check_cell) (defScope s_check_cell) .none kV_check_cell dc_check_cell pm_check_cell an_check_cell cd_check_cell ct_check_cell), sl_check_cell⟩)
    (c_check_cell : PySem.W.codeIn K cd_check_cell "check_cell" = true)
    (k_check_cell : PySem.W.keepIn K (.ref f_check_cell) = true)
    (a_check_size : PySem.W.nsIn K mainGlobals "check_size" = some (some (.ref f_check_size)))
    (l_check_size : K.lookup f_check_size = some ⟨oc_check_size, od_check_size, .func (PySem.W.fnOf "check_size" "check_size" (defArgs s_check_size) (defBody s_check_size) (defScope s_check_size) .none kV_check_size dc_check_size pm_check_size an_check_size cd_check_size ct_check_size), sl_check_size⟩)
    (c_check_size : PySem.W.codeIn K cd_check_size "check_size" = true)
    (k_check_size : PySem.W.keepIn K (.ref f_check_size) = true)
    (a_Rule_sign : PySem.W.findIn K (.ref C_Rule) "sign" = some (some (.ref f_Rule_sign)))
    (i_Rule_sign : PySem.W.isFn K (.ref f_Rule_sign) = true)
    (l_Rule_sign : K.lookup f_Rule_sign = some ⟨oc_Rule_sign, od_Rule_sign, .func (PySem.W.fnOf "sign" "Rule.sign" (defArgs s_Rule_sign) (defBody s_Rule_sign) (defScope s_Rule_sign) .none kV_Rule_sign dc_Rule_sign pm_Rule_sign an_Rule_sign cd_Rule_sign ct_Rule_sign), sl_Rule_sign⟩)
    (c_Rule_sign : PySem.W.codeIn K cd_Rule_sign "Rule.sign" = true)
    (k_Rule_sign : PySem.W.keepIn K (.ref f_Rule_sign) = true)
    (a__law_sign : PySem.W.nsIn K mainGlobals "_law_sign" = some (some (.ref f__law_sign)))
    (l__law_sign : K.lookup f__law_sign = some ⟨oc__law_sign, od__law_sign, .func (PySem.W.fnOf "_law_sign" "_law_sign" (defArgs s__law_sign) (defBody s__law_sign) (defScope s__law_sign) .none kV__law_sign dc__law_sign pm__law_sign an__law_sign cd__law_sign ct__law_sign), sl__law_sign⟩)
    (c__law_sign : PySem.W.codeIn K cd__law_sign "_law_sign" = true)
    (k__law_sign : PySem.W.keepIn K (.ref f__law_sign) = true)
    (a__law_whole : PySem.W.nsIn K mainGlobals "_law_whole" = some (some (.ref f__law_whole)))
    (l__law_whole : K.lookup f__law_whole = some ⟨oc__law_whole, od__law_whole, .func (PySem.W.fnOf "_law_whole" "_law_whole" (defArgs s__law_whole) (defBody s__law_whole) (defScope s__law_whole) .none kV__law_whole dc__law_whole pm__law_whole an__law_whole cd__law_whole ct__law_whole), sl__law_whole⟩)
    (c__law_whole : PySem.W.codeIn K cd__law_whole "_law_whole" = true)
    (k__law_whole : PySem.W.keepIn K (.ref f__law_whole) = true)
    (a__law_good : PySem.W.nsIn K mainGlobals "_law_good" = some (some (.ref f__law_good)))
    (l__law_good : K.lookup f__law_good = some ⟨oc__law_good, od__law_good, .func (PySem.W.fnOf "_law_good" "_law_good" (defArgs s__law_good) (defBody s__law_good) (defScope s__law_good) .none kV__law_good dc__law_good pm__law_good an__law_good cd__law_good ct__law_good), sl__law_good⟩)
    (c__law_good : PySem.W.codeIn K cd__law_good "_law_good" = true)
    (k__law_good : PySem.W.keepIn K (.ref f__law_good) = true)
    (a__law_near : PySem.W.nsIn K mainGlobals "_law_near" = some (some (.ref f__law_near)))
    (l__law_near : K.lookup f__law_near = some ⟨oc__law_near, od__law_near, .func (PySem.W.fnOf "_law_near" "_law_near" (defArgs s__law_near) (defBody s__law_near) (defScope s__law_near) .none kV__law_near dc__law_near pm__law_near an__law_near cd__law_near ct__law_near), sl__law_near⟩)
    (c__law_near : PySem.W.codeIn K cd__law_near "_law_near" = true)
    (k__law_near : PySem.W.keepIn K (.ref f__law_near) = true)
    (a__law_base : PySem.W.nsIn K mainGlobals "_law_base" = some (some (.ref f__law_base)))
    (l__law_base : K.lookup f__law_base = some ⟨oc__law_base, od__law_base, .func (PySem.W.fnOf "_law_base" "_law_base" (defArgs s__law_base) (defBody s__law_base) (defScope s__law_base) .none kV__law_base dc__law_base pm__law_base an__law_base cd__law_base ct__law_base), sl__law_base⟩)
    (c__law_base : PySem.W.codeIn K cd__law_base "_law_base" = true)
    (k__law_base : PySem.W.keepIn K (.ref f__law_base) = true)
    (a__law_no_cell : PySem.W.nsIn K mainGlobals "_law_no_cell" = some (some (.ref f__law_no_cell)))
    (l__law_no_cell : K.lookup f__law_no_cell = some ⟨oc__law_no_cell, od__law_no_cell, .func (PySem.W.fnOf "_law_no_cell" "_law_no_cell" (defArgs s__law_no_cell) (defBody s__law_no_cell) (defScope s__law_no_cell) .none kV__law_no_cell dc__law_no_cell pm__law_no_cell an__law_no_cell cd__law_no_cell ct__law_no_cell), sl__law_no_cell⟩)
    (c__law_no_cell : PySem.W.codeIn K cd__law_no_cell "_law_no_cell" = true)
    (k__law_no_cell : PySem.W.keepIn K (.ref f__law_no_cell) = true)
    (a_Rule_square : PySem.W.findIn K (.ref C_Rule) "square" = some (some (.ref f_Rule_square)))
    (i_Rule_square : PySem.W.isFn K (.ref f_Rule_square) = true)
    (l_Rule_square : K.lookup f_Rule_square = some ⟨oc_Rule_square, od_Rule_square, .func (PySem.W.fnOf "square" "Rule.square" (defArgs s_Rule_square) (defBody s_Rule_square) (defScope s_Rule_square) .none kV_Rule_square dc_Rule_square pm_Rule_square an_Rule_square cd_Rule_square ct_Rule_square), sl_Rule_square⟩)
    (c_Rule_square : PySem.W.codeIn K cd_Rule_square "Rule.square" = true)
    (k_Rule_square : PySem.W.keepIn K (.ref f_Rule_square) = true)
    (a__law_square : PySem.W.nsIn K mainGlobals "_law_square" = some (some (.ref f__law_square)))
    (l__law_square : K.lookup f__law_square = some ⟨oc__law_square, od__law_square, .func (PySem.W.fnOf "_law_square" "_law_square" (defArgs s__law_square) (defBody s__law_square) (defScope s__law_square) .none kV__law_square dc__law_square pm__law_square an__law_square cd__law_square ct__law_square), sl__law_square⟩)
    (c__law_square : PySem.W.codeIn K cd__law_square "_law_square" = true)
    (k__law_square : PySem.W.keepIn K (.ref f__law_square) = true)
    (a__law_no_size : PySem.W.nsIn K mainGlobals "_law_no_size" = some (some (.ref f__law_no_size)))
    (l__law_no_size : K.lookup f__law_no_size = some ⟨oc__law_no_size, od__law_no_size, .func (PySem.W.fnOf "_law_no_size" "_law_no_size" (defArgs s__law_no_size) (defBody s__law_no_size) (defScope s__law_no_size) .none kV__law_no_size dc__law_no_size pm__law_no_size an__law_no_size cd__law_no_size ct__law_no_size), sl__law_no_size⟩)
    (c__law_no_size : PySem.W.codeIn K cd__law_no_size "_law_no_size" = true)
    (k__law_no_size : PySem.W.keepIn K (.ref f__law_no_size) = true)
    (a__law_size : PySem.W.nsIn K mainGlobals "_law_size" = some (some (.ref f__law_size)))
    (l__law_size : K.lookup f__law_size = some ⟨oc__law_size, od__law_size, .func (PySem.W.fnOf "_law_size" "_law_size" (defArgs s__law_size) (defBody s__law_size) (defScope s__law_size) .none kV__law_size dc__law_size pm__law_size an__law_size cd__law_size ct__law_size), sl__law_size⟩)
    (c__law_size : PySem.W.codeIn K cd__law_size "_law_size" = true)
    (k__law_size : PySem.W.keepIn K (.ref f__law_size) = true)
    (a__law_asked : PySem.W.nsIn K mainGlobals "_law_asked" = some (some (.ref f__law_asked)))
    (l__law_asked : K.lookup f__law_asked = some ⟨oc__law_asked, od__law_asked, .func (PySem.W.fnOf "_law_asked" "_law_asked" (defArgs s__law_asked) (defBody s__law_asked) (defScope s__law_asked) .none kV__law_asked dc__law_asked pm__law_asked an__law_asked cd__law_asked ct__law_asked), sl__law_asked⟩)
    (c__law_asked : PySem.W.codeIn K cd__law_asked "_law_asked" = true)
    (k__law_asked : PySem.W.keepIn K (.ref f__law_asked) = true)
    (a__law_pool : PySem.W.nsIn K mainGlobals "_law_pool" = some (some (.ref f__law_pool)))
    (l__law_pool : K.lookup f__law_pool = some ⟨oc__law_pool, od__law_pool, .func (PySem.W.fnOf "_law_pool" "_law_pool" (defArgs s__law_pool) (defBody s__law_pool) (defScope s__law_pool) .none kV__law_pool dc__law_pool pm__law_pool an__law_pool cd__law_pool ct__law_pool), sl__law_pool⟩)
    (c__law_pool : PySem.W.codeIn K cd__law_pool "_law_pool" = true)
    (k__law_pool : PySem.W.keepIn K (.ref f__law_pool) = true)
    (a_law : PySem.W.nsIn K mainGlobals "law" = some (some (.ref f_law)))
    (l_law : K.lookup f_law = some ⟨oc_law, od_law, .func (PySem.W.fnOf "law" "law" (defArgs s_law) (defBody s_law) (defScope s_law) .none kV_law dc_law pm_law an_law cd_law ct_law), sl_law⟩)
    (c_law : PySem.W.codeIn K cd_law "law" = true)
    (k_law : PySem.W.keepIn K (.ref f_law) = true)
    (zz_ValueError : PySem.W.nsIn K mainGlobals "ValueError" = some none)
    (zz_bool : PySem.W.nsIn K mainGlobals "bool" = some none)
    (zz_int : PySem.W.nsIn K mainGlobals "int" = some none)
    (zz_isinstance : PySem.W.nsIn K mainGlobals "isinstance" = some none)
    (zz_len : PySem.W.nsIn K mainGlobals "len" = some none)
    (zz_max : PySem.W.nsIn K mainGlobals "max" = some none)
    (zz_min : PySem.W.nsIn K mainGlobals "min" = some none)
    (zz_range : PySem.W.nsIn K mainGlobals "range" = some none)
    (zz_tuple : PySem.W.nsIn K mainGlobals "tuple" = some none)
    (xL_InvalidSize : K.lookup C_InvalidSize = some (excClassObj nm_InvalidSize q_InvalidSize C_InvalidSize N_InvalidSize bs_InvalidSize (.ref C_SquareError :: [.type "ValueError", .type "Exception", .type "BaseException", .type "object"]) true sn_InvalidSize sub_InvalidSize ab_InvalidSize col_InvalidSize dd_InvalidSize k0_InvalidSize k1_InvalidSize k2_InvalidSize k3_InvalidSize k5_InvalidSize "ValueError.__new__"))
    (sa_InvalidSize : PySem.W.findIn K (.ref C_InvalidSize) "__setattr__" = some (some (.builtin "object.__setattr__")))
    (eC_InvalidSize : PySem.W.subIn K (.ref C_InvalidSize) (.type "BaseException") = some true)
    (tC_InvalidSize : PySem.W.typeIn K (.ref C_InvalidSize) = some (.type "type"))
    (kC_InvalidSize : PySem.W.keepIn K (.ref C_InvalidSize) = true)
    (ga_InvalidSize : PySem.W.findIn K (.ref C_InvalidSize) "__getattribute__" = some (some (.builtin "BaseException.__getattribute__")))
    (gg_InvalidSize : PySem.W.findIn K (.ref C_InvalidSize) "__getattr__" = some none)
    (hd_InvalidSize : PySem.W.hasDictIn K C_InvalidSize = true)
    (ca_InvalidSize : PySem.W.findIn K (.ref C_InvalidSize) "__class__" = some (some (.builtin "object.__class__")))
    (hcn_err : PySem.W.specialIn K (.builtin "object.__class__") "__get__" = some (some (.builtin "getset_descriptor.__get__")))
    (hct_err : PySem.W.takesIn K (.builtin "object.__class__") = some true)
    (cm_InvalidSize : PySem.W.mroIn K C_InvalidSize (.type "object") = some true)
    (hvn_InvalidSize : PySem.W.findIn K (.ref C_InvalidSize) "value" = some none)
    (hii_InvalidSize : PySem.W.findIn K (.ref C_InvalidSize) "__init__" = some (some (.ref f_SquareError___init__)))
    (eC_InvalidNumber : PySem.W.subIn K (.ref C_InvalidNumber) (.type "BaseException") = some true)
    (tC_InvalidNumber : PySem.W.typeIn K (.ref C_InvalidNumber) = some (.type "type"))
    (hd_InvalidNumber : PySem.W.hasDictIn K C_InvalidNumber = true)
    (hsb_InvalidSize_InvalidNumber : PySem.W.subIn K (.ref C_InvalidSize) (.ref C_InvalidNumber) = some false)
    (eC_InvalidTurn : PySem.W.subIn K (.ref C_InvalidTurn) (.type "BaseException") = some true)
    (tC_InvalidTurn : PySem.W.typeIn K (.ref C_InvalidTurn) = some (.type "type"))
    (hd_InvalidTurn : PySem.W.hasDictIn K C_InvalidTurn = true)
    (hsb_InvalidSize_InvalidTurn : PySem.W.subIn K (.ref C_InvalidSize) (.ref C_InvalidTurn) = some false)
    (hsb_InvalidSize_InvalidSize : PySem.W.subIn K (.ref C_InvalidSize) (.ref C_InvalidSize) = some true)
    (eC_InvalidCell : PySem.W.subIn K (.ref C_InvalidCell) (.type "BaseException") = some true)
    (tC_InvalidCell : PySem.W.typeIn K (.ref C_InvalidCell) = some (.type "type"))
    (hd_InvalidCell : PySem.W.hasDictIn K C_InvalidCell = true)
    (hsb_InvalidSize_InvalidCell : PySem.W.subIn K (.ref C_InvalidSize) (.ref C_InvalidCell) = some false)
    (eC_SquareError : PySem.W.subIn K (.ref C_SquareError) (.type "BaseException") = some true)
    (tC_SquareError : PySem.W.typeIn K (.ref C_SquareError) = some (.type "type"))
    (hd_SquareError : PySem.W.hasDictIn K C_SquareError = true)
    (hsb_InvalidSize_SquareError : PySem.W.subIn K (.ref C_InvalidSize) (.ref C_SquareError) = some true)
    (hkv_InvalidSize : PySem.W.subIn K (.ref C_InvalidSize) (.type "ValueError") = some true)
    (xL_InvalidCell : K.lookup C_InvalidCell = some (excClassObj nm_InvalidCell q_InvalidCell C_InvalidCell N_InvalidCell bs_InvalidCell (.ref C_SquareError :: [.type "ValueError", .type "Exception", .type "BaseException", .type "object"]) true sn_InvalidCell sub_InvalidCell ab_InvalidCell col_InvalidCell dd_InvalidCell k0_InvalidCell k1_InvalidCell k2_InvalidCell k3_InvalidCell k5_InvalidCell "ValueError.__new__"))
    (sa_InvalidCell : PySem.W.findIn K (.ref C_InvalidCell) "__setattr__" = some (some (.builtin "object.__setattr__")))
    (kC_InvalidCell : PySem.W.keepIn K (.ref C_InvalidCell) = true)
    (ga_InvalidCell : PySem.W.findIn K (.ref C_InvalidCell) "__getattribute__" = some (some (.builtin "BaseException.__getattribute__")))
    (gg_InvalidCell : PySem.W.findIn K (.ref C_InvalidCell) "__getattr__" = some none)
    (ca_InvalidCell : PySem.W.findIn K (.ref C_InvalidCell) "__class__" = some (some (.builtin "object.__class__")))
    (cm_InvalidCell : PySem.W.mroIn K C_InvalidCell (.type "object") = some true)
    (hvn_InvalidCell : PySem.W.findIn K (.ref C_InvalidCell) "value" = some none)
    (hii_InvalidCell : PySem.W.findIn K (.ref C_InvalidCell) "__init__" = some (some (.ref f_SquareError___init__)))
    (hsb_InvalidCell_InvalidNumber : PySem.W.subIn K (.ref C_InvalidCell) (.ref C_InvalidNumber) = some false)
    (hsb_InvalidCell_InvalidTurn : PySem.W.subIn K (.ref C_InvalidCell) (.ref C_InvalidTurn) = some false)
    (hsb_InvalidCell_InvalidSize : PySem.W.subIn K (.ref C_InvalidCell) (.ref C_InvalidSize) = some false)
    (hsb_InvalidCell_InvalidCell : PySem.W.subIn K (.ref C_InvalidCell) (.ref C_InvalidCell) = some true)
    (hsb_InvalidCell_SquareError : PySem.W.subIn K (.ref C_InvalidCell) (.ref C_SquareError) = some true)
    (hkv_InvalidCell : PySem.W.subIn K (.ref C_InvalidCell) (.type "ValueError") = some true)
    : ∃ fd : FuncData, (∀ (s : Shared) (v : Value), BindsTo s fd ⟨[v], []⟩ [("script", v)]) ∧ ∀ base : Heap, K.In base → base.Ns mainGlobals mg → FnOk l.prog w K mg base CX0 8 fa fd ["script"] (spLaw K) := by
  have e := hfa.symm.trans (PySem.W.mg_of X G a_law)
  cases e
  let T : Txt K mg := {
    C_InvalidCell := C_InvalidCell,
    C_InvalidNumber := C_InvalidNumber,
    C_InvalidSize := C_InvalidSize,
    C_InvalidTurn := C_InvalidTurn,
    C_Rule := C_Rule,
    C_SquareError := C_SquareError,
    f_Rule___init__ := f_Rule___init__,
    fd_Rule___init__ := PySem.W.fnOf "__init__" "Rule.__init__" (defArgs s_Rule___init__) (defBody s_Rule___init__) (defScope s_Rule___init__) .none kV_Rule___init__ dc_Rule___init__ pm_Rule___init__ an_Rule___init__ cd_Rule___init__ ct_Rule___init__,
    f__law_take := f__law_take,
    fd__law_take := PySem.W.fnOf "_law_take" "_law_take" (defArgs s__law_take) (defBody s__law_take) (defScope s__law_take) .none kV__law_take dc__law_take pm__law_take an__law_take cd__law_take ct__law_take,
    f__law_bad_place := f__law_bad_place,
    fd__law_bad_place := PySem.W.fnOf "_law_bad_place" "_law_bad_place" (defArgs s__law_bad_place) (defBody s__law_bad_place) (defScope s__law_bad_place) .none kV__law_bad_place dc__law_bad_place pm__law_bad_place an__law_bad_place cd__law_bad_place ct__law_bad_place,
    f_Rule__value := f_Rule__value,
    fd_Rule__value := PySem.W.fnOf "_value" "Rule._value" (defArgs s_Rule__value) (defBody s_Rule__value) (defScope s_Rule__value) .none kV_Rule__value dc_Rule__value pm_Rule__value an_Rule__value cd_Rule__value ct_Rule__value,
    f_SquareError___init__ := f_SquareError___init__,
    fd_SquareError___init__ := PySem.W.fnOf "__init__" "SquareError.__init__" (defArgs s_SquareError___init__) (defBody s_SquareError___init__) (defScope s_SquareError___init__) .none kV_SquareError___init__ dc_SquareError___init__ pm_SquareError___init__ an_SquareError___init__ cd_SquareError___init__ ct_SquareError___init__,
    f_check_cell := f_check_cell,
    fd_check_cell := PySem.W.fnOf "check_cell" "check_cell" (defArgs s_check_cell) (defBody s_check_cell) (defScope s_check_cell) .none kV_check_cell dc_check_cell pm_check_cell an_check_cell cd_check_cell ct_check_cell,
    f_check_size := f_check_size,
    fd_check_size := PySem.W.fnOf "check_size" "check_size" (defArgs s_check_size) (defBody s_check_size) (defScope s_check_size) .none kV_check_size dc_check_size pm_check_size an_check_size cd_check_size ct_check_size,
    f_Rule_sign := f_Rule_sign,
    fd_Rule_sign := PySem.W.fnOf "sign" "Rule.sign" (defArgs s_Rule_sign) (defBody s_Rule_sign) (defScope s_Rule_sign) .none kV_Rule_sign dc_Rule_sign pm_Rule_sign an_Rule_sign cd_Rule_sign ct_Rule_sign,
    f__law_sign := f__law_sign,
    fd__law_sign := PySem.W.fnOf "_law_sign" "_law_sign" (defArgs s__law_sign) (defBody s__law_sign) (defScope s__law_sign) .none kV__law_sign dc__law_sign pm__law_sign an__law_sign cd__law_sign ct__law_sign,
    f__law_whole := f__law_whole,
    fd__law_whole := PySem.W.fnOf "_law_whole" "_law_whole" (defArgs s__law_whole) (defBody s__law_whole) (defScope s__law_whole) .none kV__law_whole dc__law_whole pm__law_whole an__law_whole cd__law_whole ct__law_whole,
    f__law_good := f__law_good,
    fd__law_good := PySem.W.fnOf "_law_good" "_law_good" (defArgs s__law_good) (defBody s__law_good) (defScope s__law_good) .none kV__law_good dc__law_good pm__law_good an__law_good cd__law_good ct__law_good,
    f__law_near := f__law_near,
    fd__law_near := PySem.W.fnOf "_law_near" "_law_near" (defArgs s__law_near) (defBody s__law_near) (defScope s__law_near) .none kV__law_near dc__law_near pm__law_near an__law_near cd__law_near ct__law_near,
    f__law_base := f__law_base,
    fd__law_base := PySem.W.fnOf "_law_base" "_law_base" (defArgs s__law_base) (defBody s__law_base) (defScope s__law_base) .none kV__law_base dc__law_base pm__law_base an__law_base cd__law_base ct__law_base,
    f__law_no_cell := f__law_no_cell,
    fd__law_no_cell := PySem.W.fnOf "_law_no_cell" "_law_no_cell" (defArgs s__law_no_cell) (defBody s__law_no_cell) (defScope s__law_no_cell) .none kV__law_no_cell dc__law_no_cell pm__law_no_cell an__law_no_cell cd__law_no_cell ct__law_no_cell,
    f_Rule_square := f_Rule_square,
    fd_Rule_square := PySem.W.fnOf "square" "Rule.square" (defArgs s_Rule_square) (defBody s_Rule_square) (defScope s_Rule_square) .none kV_Rule_square dc_Rule_square pm_Rule_square an_Rule_square cd_Rule_square ct_Rule_square,
    f__law_square := f__law_square,
    fd__law_square := PySem.W.fnOf "_law_square" "_law_square" (defArgs s__law_square) (defBody s__law_square) (defScope s__law_square) .none kV__law_square dc__law_square pm__law_square an__law_square cd__law_square ct__law_square,
    f__law_no_size := f__law_no_size,
    fd__law_no_size := PySem.W.fnOf "_law_no_size" "_law_no_size" (defArgs s__law_no_size) (defBody s__law_no_size) (defScope s__law_no_size) .none kV__law_no_size dc__law_no_size pm__law_no_size an__law_no_size cd__law_no_size ct__law_no_size,
    f__law_size := f__law_size,
    fd__law_size := PySem.W.fnOf "_law_size" "_law_size" (defArgs s__law_size) (defBody s__law_size) (defScope s__law_size) .none kV__law_size dc__law_size pm__law_size an__law_size cd__law_size ct__law_size,
    f__law_asked := f__law_asked,
    fd__law_asked := PySem.W.fnOf "_law_asked" "_law_asked" (defArgs s__law_asked) (defBody s__law_asked) (defScope s__law_asked) .none kV__law_asked dc__law_asked pm__law_asked an__law_asked cd__law_asked ct__law_asked,
    f__law_pool := f__law_pool,
    fd__law_pool := PySem.W.fnOf "_law_pool" "_law_pool" (defArgs s__law_pool) (defBody s__law_pool) (defScope s__law_pool) .none kV__law_pool dc__law_pool pm__law_pool an__law_pool cd__law_pool ct__law_pool,
    f_law := fa,
    fd_law := PySem.W.fnOf "law" "law" (defArgs s_law) (defBody s_law) (defScope s_law) .none kV_law dc_law pm_law an_law cd_law ct_law,
    gC_InvalidCell := PySem.W.mg_of X G aC_InvalidCell,
    gC_InvalidNumber := PySem.W.mg_of X G aC_InvalidNumber,
    gC_InvalidSize := PySem.W.mg_of X G aC_InvalidSize,
    gC_InvalidTurn := PySem.W.mg_of X G aC_InvalidTurn,
    gC_Rule := PySem.W.mg_of X G aC_Rule,
    cl_Rule := ⟨pg_Rule, hd_Rule, po_Rule, sa_Rule⟩,
    mk_Rule := ⟨ma_Rule, a_Rule___init__, i_Rule___init__, kC_Rule⟩,
    gC_SquareError := PySem.W.mg_of X G aC_SquareError,
    na_Rule_a := n_Rule_a,
    na_Rule_b := n_Rule_b,
    na_Rule_d := n_Rule_d,
    me_Rule___init__ := ⟨a_Rule___init__, i_Rule___init__, k_Rule___init__⟩,
    F_Rule___init__ := fun_mk (st := s_Rule___init__) l_Rule___init__ c_Rule___init__ k_Rule___init__,
    b_Rule___init__ := (fun_mk (st := s_Rule___init__) l_Rule___init__ c_Rule___init__ k_Rule___init__).binds (ps := ["self", "a", "b", "d"]) fun _ _ _ _ _ _ us hl => match us, hl with | [_, _, _, _], _ => rfl,
    g__law_take := PySem.W.mg_of X G a__law_take,
    F__law_take := fun_mk (st := s__law_take) l__law_take c__law_take k__law_take,
    b__law_take := (fun_mk (st := s__law_take) l__law_take c__law_take k__law_take).binds (ps := ["pool", "many"]) fun _ _ _ _ _ _ us hl => match us, hl with | [_, _], _ => rfl,
    g__law_bad_place := PySem.W.mg_of X G a__law_bad_place,
    F__law_bad_place := fun_mk (st := s__law_bad_place) l__law_bad_place c__law_bad_place k__law_bad_place,
    b__law_bad_place := (fun_mk (st := s__law_bad_place) l__law_bad_place c__law_bad_place k__law_bad_place).binds (ps := ["pool", "size"]) fun _ _ _ _ _ _ us hl => match us, hl with | [_, _], _ => rfl,
    me_Rule__value := ⟨a_Rule__value, i_Rule__value, k_Rule__value⟩,
    F_Rule__value := fun_mk (st := s_Rule__value) l_Rule__value c_Rule__value k_Rule__value,
    b_Rule__value := (fun_mk (st := s_Rule__value) l_Rule__value c_Rule__value k_Rule__value).binds (ps := ["self", "row", "column"]) fun _ _ _ _ _ _ us hl => match us, hl with | [_, _, _], _ => rfl,
    me_SquareError___init__ := ⟨a_SquareError___init__, i_SquareError___init__, k_SquareError___init__⟩,
    F_SquareError___init__ := fun_mk (st := s_SquareError___init__) l_SquareError___init__ c_SquareError___init__ k_SquareError___init__,
    b_SquareError___init__ := (fun_mk (st := s_SquareError___init__) l_SquareError___init__ c_SquareError___init__ k_SquareError___init__).binds (ps := ["self", "value"]) fun _ _ _ _ _ _ us hl => match us, hl with | [_, _], _ => rfl,
    g_check_cell := PySem.W.mg_of X G a_check_cell,
    F_check_cell := fun_mk (st := s_check_cell) l_check_cell c_check_cell k_check_cell,
    b_check_cell := (fun_mk (st := s_check_cell) l_check_cell c_check_cell k_check_cell).binds (ps := ["n", "row", "column"]) fun _ _ _ _ _ _ us hl => match us, hl with | [_, _, _], _ => rfl,
    g_check_size := PySem.W.mg_of X G a_check_size,
    F_check_size := fun_mk (st := s_check_size) l_check_size c_check_size k_check_size,
    b_check_size := (fun_mk (st := s_check_size) l_check_size c_check_size k_check_size).binds (ps := ["n"]) fun _ _ _ _ _ _ us hl => match us, hl with | [_], _ => rfl,
    me_Rule_sign := ⟨a_Rule_sign, i_Rule_sign, k_Rule_sign⟩,
    F_Rule_sign := fun_mk (st := s_Rule_sign) l_Rule_sign c_Rule_sign k_Rule_sign,
    b_Rule_sign := (fun_mk (st := s_Rule_sign) l_Rule_sign c_Rule_sign k_Rule_sign).binds (ps := ["self", "n", "row", "column"]) fun _ _ _ _ _ _ us hl => match us, hl with | [_, _, _, _], _ => rfl,
    g__law_sign := PySem.W.mg_of X G a__law_sign,
    F__law_sign := fun_mk (st := s__law_sign) l__law_sign c__law_sign k__law_sign,
    b__law_sign := (fun_mk (st := s__law_sign) l__law_sign c__law_sign k__law_sign).binds (ps := ["rule", "size", "r", "c"]) fun _ _ _ _ _ _ us hl => match us, hl with | [_, _, _, _], _ => rfl,
    g__law_whole := PySem.W.mg_of X G a__law_whole,
    F__law_whole := fun_mk (st := s__law_whole) l__law_whole c__law_whole k__law_whole,
    b__law_whole := (fun_mk (st := s__law_whole) l__law_whole c__law_whole k__law_whole).binds (ps := ["found"]) fun _ _ _ _ _ _ us hl => match us, hl with | [_], _ => rfl,
    g__law_good := PySem.W.mg_of X G a__law_good,
    F__law_good := fun_mk (st := s__law_good) l__law_good c__law_good k__law_good,
    b__law_good := (fun_mk (st := s__law_good) l__law_good c__law_good k__law_good).binds (ps := ["rule", "numbers", "size", "places"]) fun _ _ _ _ _ _ us hl => match us, hl with | [_, _, _, _], _ => rfl,
    g__law_near := PySem.W.mg_of X G a__law_near,
    F__law_near := fun_mk (st := s__law_near) l__law_near c__law_near k__law_near,
    b__law_near := (fun_mk (st := s__law_near) l__law_near c__law_near k__law_near).binds (ps := ["pool", "most"]) fun _ _ _ _ _ _ us hl => match us, hl with | [_, _], _ => rfl,
    g__law_base := PySem.W.mg_of X G a__law_base,
    F__law_base := fun_mk (st := s__law_base) l__law_base c__law_base k__law_base,
    b__law_base := (fun_mk (st := s__law_base) l__law_base c__law_base k__law_base).binds (ps := ["rule", "size", "r", "c"]) fun _ _ _ _ _ _ us hl => match us, hl with | [_, _, _, _], _ => rfl,
    g__law_no_cell := PySem.W.mg_of X G a__law_no_cell,
    F__law_no_cell := fun_mk (st := s__law_no_cell) l__law_no_cell c__law_no_cell k__law_no_cell,
    b__law_no_cell := (fun_mk (st := s__law_no_cell) l__law_no_cell c__law_no_cell k__law_no_cell).binds (ps := ["rule", "size", "r", "c"]) fun _ _ _ _ _ _ us hl => match us, hl with | [_, _, _, _], _ => rfl,
    me_Rule_square := ⟨a_Rule_square, i_Rule_square, k_Rule_square⟩,
    F_Rule_square := fun_mk (st := s_Rule_square) l_Rule_square c_Rule_square k_Rule_square,
    b_Rule_square := (fun_mk (st := s_Rule_square) l_Rule_square c_Rule_square k_Rule_square).binds (ps := ["self", "n"]) fun _ _ _ _ _ _ us hl => match us, hl with | [_, _], _ => rfl,
    g__law_square := PySem.W.mg_of X G a__law_square,
    F__law_square := fun_mk (st := s__law_square) l__law_square c__law_square k__law_square,
    b__law_square := (fun_mk (st := s__law_square) l__law_square c__law_square k__law_square).binds (ps := ["rule", "size"]) fun _ _ _ _ _ _ us hl => match us, hl with | [_, _], _ => rfl,
    g__law_no_size := PySem.W.mg_of X G a__law_no_size,
    F__law_no_size := fun_mk (st := s__law_no_size) l__law_no_size c__law_no_size k__law_no_size,
    b__law_no_size := (fun_mk (st := s__law_no_size) l__law_no_size c__law_no_size k__law_no_size).binds (ps := ["rule", "size", "places"]) fun _ _ _ _ _ _ us hl => match us, hl with | [_, _, _], _ => rfl,
    g__law_size := PySem.W.mg_of X G a__law_size,
    F__law_size := fun_mk (st := s__law_size) l__law_size c__law_size k__law_size,
    b__law_size := (fun_mk (st := s__law_size) l__law_size c__law_size k__law_size).binds (ps := ["pool"]) fun _ _ _ _ _ _ us hl => match us, hl with | [_], _ => rfl,
    g__law_asked := PySem.W.mg_of X G a__law_asked,
    F__law_asked := fun_mk (st := s__law_asked) l__law_asked c__law_asked k__law_asked,
    b__law_asked := (fun_mk (st := s__law_asked) l__law_asked c__law_asked k__law_asked).binds (ps := ["pool"]) fun _ _ _ _ _ _ us hl => match us, hl with | [_], _ => rfl,
    g__law_pool := PySem.W.mg_of X G a__law_pool,
    F__law_pool := fun_mk (st := s__law_pool) l__law_pool c__law_pool k__law_pool,
    b__law_pool := (fun_mk (st := s__law_pool) l__law_pool c__law_pool k__law_pool).binds (ps := ["script", "k"]) fun _ _ _ _ _ _ us hl => match us, hl with | [_, _], _ => rfl,
    g_law := PySem.W.mg_of X G a_law,
    F_law := fun_mk (st := s_law) l_law c_law k_law,
    b_law := (fun_mk (st := s_law) l_law c_law k_law).binds (ps := ["script"]) fun _ _ _ _ _ _ us hl => match us, hl with | [_], _ => rfl,
    z_ValueError := PySem.W.mg_none_of X G zz_ValueError,
    z_bool := PySem.W.mg_none_of X G zz_bool,
    z_int := PySem.W.mg_none_of X G zz_int,
    z_isinstance := PySem.W.mg_none_of X G zz_isinstance,
    z_len := PySem.W.mg_none_of X G zz_len,
    z_max := PySem.W.mg_none_of X G zz_max,
    z_min := PySem.W.mg_none_of X G zz_min,
    z_range := PySem.W.mg_none_of X G zz_range,
    z_tuple := PySem.W.mg_none_of X G zz_tuple,
    kb_Rule_sign_1_n_row_column := kbn_mk fun us ws hu hw => match us, ws, hu, hw with | [_], [_, _, _], _, _ => rfl,
    er_InvalidSize := ⟨⟨⟨_, _, _, _, _, _, _, _, _, _, _, _, _, _, _, xL_InvalidSize, by rfl⟩, sa_InvalidSize, eC_InvalidSize, tC_InvalidSize, kC_InvalidSize⟩, ⟨ga_InvalidSize, gg_InvalidSize, eC_InvalidSize, hd_InvalidSize⟩, ⟨ga_InvalidSize, gg_InvalidSize, eC_InvalidSize, hd_InvalidSize, ca_InvalidSize, hcn_err, hct_err, cm_InvalidSize⟩⟩,
    vn_InvalidSize := hvn_InvalidSize,
    ii_InvalidSize := hii_InvalidSize,
    ti_InvalidSize := t_SquareError___init__,
    em_InvalidSize_InvalidNumber := PySem.W.exm_ref eC_InvalidNumber hd_InvalidNumber tC_InvalidNumber hsb_InvalidSize_InvalidNumber,
    em_InvalidSize_InvalidTurn := PySem.W.exm_ref eC_InvalidTurn hd_InvalidTurn tC_InvalidTurn hsb_InvalidSize_InvalidTurn,
    em_InvalidSize_InvalidSize := PySem.W.exm_ref eC_InvalidSize hd_InvalidSize tC_InvalidSize hsb_InvalidSize_InvalidSize,
    em_InvalidSize_InvalidCell := PySem.W.exm_ref eC_InvalidCell hd_InvalidCell tC_InvalidCell hsb_InvalidSize_InvalidCell,
    em_InvalidSize_SquareError := PySem.W.exm_ref eC_SquareError hd_SquareError tC_SquareError hsb_InvalidSize_SquareError,
    kv_InvalidSize := kit_ve hkv_InvalidSize,
    kt_InvalidSize_InvalidCell := kit_no hd_InvalidCell tC_InvalidCell hsb_InvalidSize_InvalidCell hsb_InvalidSize_InvalidSize,
    er_InvalidCell := ⟨⟨⟨_, _, _, _, _, _, _, _, _, _, _, _, _, _, _, xL_InvalidCell, by rfl⟩, sa_InvalidCell, eC_InvalidCell, tC_InvalidCell, kC_InvalidCell⟩, ⟨ga_InvalidCell, gg_InvalidCell, eC_InvalidCell, hd_InvalidCell⟩, ⟨ga_InvalidCell, gg_InvalidCell, eC_InvalidCell, hd_InvalidCell, ca_InvalidCell, hcn_err, hct_err, cm_InvalidCell⟩⟩,
    vn_InvalidCell := hvn_InvalidCell,
    ii_InvalidCell := hii_InvalidCell,
    ti_InvalidCell := t_SquareError___init__,
    em_InvalidCell_InvalidNumber := PySem.W.exm_ref eC_InvalidNumber hd_InvalidNumber tC_InvalidNumber hsb_InvalidCell_InvalidNumber,
    em_InvalidCell_InvalidTurn := PySem.W.exm_ref eC_InvalidTurn hd_InvalidTurn tC_InvalidTurn hsb_InvalidCell_InvalidTurn,
    em_InvalidCell_InvalidSize := PySem.W.exm_ref eC_InvalidSize hd_InvalidSize tC_InvalidSize hsb_InvalidCell_InvalidSize,
    em_InvalidCell_InvalidCell := PySem.W.exm_ref eC_InvalidCell hd_InvalidCell tC_InvalidCell hsb_InvalidCell_InvalidCell,
    em_InvalidCell_SquareError := PySem.W.exm_ref eC_SquareError hd_SquareError tC_SquareError hsb_InvalidCell_SquareError,
    kv_InvalidCell := kit_ve hkv_InvalidCell,
    kt_InvalidCell_InvalidSize := kit_no hd_InvalidSize tC_InvalidSize hsb_InvalidCell_InvalidSize hsb_InvalidCell_InvalidCell }
  exact ⟨T.fd_law, fun s v => .of_eq rfl, fun base _ _ => (ok_law T).imp (law_imp T)⟩
theorem walk {l : PySem.W.OpenLaw} {q : Program} {loose : List Str} {XP : (Str → Option Value) → Heap → Prop} {YP : World → Heap → Prop} {d : DefRec} {K : Params → PySem.W.Frag} (hn : l.most = some 63) (hdf : d.params.defaults = [])
    (hY : ∀ (w : World) (h : Heap), YP w h → (K w.params).In h)
    (F : ∀ (w : World) (mg : Str → Option Value) (fa : Addr) (h : Heap), (K w.params).In h → h.Ns mainGlobals mg → mg d.name = some (.ref fa) →
      ∃ fd : FuncData, (∀ (s : Shared) (u : Value), BindsTo s fd ⟨[u], []⟩ [("script", u)]) ∧ ∀ base : Heap, (K w.params).In base → base.Ns mainGlobals mg → FnOk l.prog w (K w.params) mg base CX0 8 fa fd ["script"] (spLaw (K w.params))) :
    PySem.W.WalkO q loose XP YP l.row.toRowW d [] (fun f vs => PySem.call f vs) :=
  L2.walk_of (n := 63) (k := 8) (x := "script") (CX := fun _ => CX0) (sp := fun w => spLaw (K w.params)) hn (by decide) hdf ⟨rfl, by decide, by decide⟩ hY F (fun _ _ a ns hl _ hS => ⟨a, ns, rfl, hS, hl, fun _ => rfl⟩) fun _ _ _ _ _ z => z
end Law

open PySem PySem.W PyProof.Rows in
set_option maxRecDepth 100000 in
set_option maxHeartbeats 0 in
theorem PySem.Challenge.cw_rulesquares_k18_no_such_cell_holds : PySem.Challenge.rw_rulesquares_k18_no_such_cell.Holds := by
  w_on; o_law; k_head; (case hw => w_witness2)
  k_fill
  refine Law.walk (l := PySem.Challenge.rw_rulesquares_k18_no_such_cell) rfl rfl (fun w h Y => PySem.W.kIn_of Y) ?F
  case F =>
    intro w mg fa h KX G hmg
    refine' Law.all_mk KX G hmg ?aC_InvalidCell ?aC_InvalidNumber ?aC_InvalidSize ?aC_InvalidTurn ?aC_Rule ?pg_Rule ?hd_Rule ?po_Rule ?sa_Rule ?ma_Rule ?kC_Rule ?aC_SquareError ?n_Rule_a ?n_Rule_b ?n_Rule_d ?a_Rule___init__ ?i_Rule___init__ ?l_Rule___init__ ?c_Rule___init__ ?k_Rule___init__ ?a__law_take ?l__law_take ?c__law_take ?k__law_take ?a__law_bad_place ?l__law_bad_place ?c__law_bad_place ?k__law_bad_place ?a_Rule__value ?i_Rule__value ?l_Rule__value ?c_Rule__value ?k_Rule__value ?a_SquareError___init__ ?i_SquareError___init__ ?t_SquareError___init__ ?l_SquareError___init__ ?c_SquareError___init__ ?k_SquareError___init__ ?a_check_cell ?l_check_cell ?c_check_cell ?k_check_cell ?a_check_size ?l_check_size ?c_check_size ?k_check_size ?a_Rule_sign ?i_Rule_sign ?l_Rule_sign ?c_Rule_sign ?k_Rule_sign ?a__law_sign ?l__law_sign ?c__law_sign ?k__law_sign ?a__law_whole ?l__law_whole ?c__law_whole ?k__law_whole ?a__law_good ?l__law_good ?c__law_good ?k__law_good ?a__law_near ?l__law_near ?c__law_near ?k__law_near ?a__law_base ?l__law_base ?c__law_base ?k__law_base ?a__law_no_cell ?l__law_no_cell ?c__law_no_cell ?k__law_no_cell ?a_Rule_square ?i_Rule_square ?l_Rule_square ?c_Rule_square ?k_Rule_square ?a__law_square ?l__law_square ?c__law_square ?k__law_square ?a__law_no_size ?l__law_no_size ?c__law_no_size ?k__law_no_size ?a__law_size ?l__law_size ?c__law_size ?k__law_size ?a__law_asked ?l__law_asked ?c__law_asked ?k__law_asked ?a__law_pool ?l__law_pool ?c__law_pool ?k__law_pool ?a_law ?l_law ?c_law ?k_law ?zz_ValueError ?zz_bool ?zz_int ?zz_isinstance ?zz_len ?zz_max ?zz_min ?zz_range ?zz_tuple ?xL_InvalidSize ?sa_InvalidSize ?eC_InvalidSize ?tC_InvalidSize ?kC_InvalidSize ?ga_InvalidSize ?gg_InvalidSize ?hd_InvalidSize ?ca_InvalidSize ?hcn_err ?hct_err ?cm_InvalidSize ?hvn_InvalidSize ?hii_InvalidSize ?eC_InvalidNumber ?tC_InvalidNumber ?hd_InvalidNumber ?hsb_InvalidSize_InvalidNumber ?eC_InvalidTurn ?tC_InvalidTurn ?hd_InvalidTurn ?hsb_InvalidSize_InvalidTurn ?hsb_InvalidSize_InvalidSize ?eC_InvalidCell ?tC_InvalidCell ?hd_InvalidCell ?hsb_InvalidSize_InvalidCell ?eC_SquareError ?tC_SquareError ?hd_SquareError ?hsb_InvalidSize_SquareError ?hkv_InvalidSize ?xL_InvalidCell ?sa_InvalidCell ?kC_InvalidCell ?ga_InvalidCell ?gg_InvalidCell ?ca_InvalidCell ?cm_InvalidCell ?hvn_InvalidCell ?hii_InvalidCell ?hsb_InvalidCell_InvalidNumber ?hsb_InvalidCell_InvalidTurn ?hsb_InvalidCell_InvalidSize ?hsb_InvalidCell_InvalidCell ?hsb_InvalidCell_SquareError ?hkv_InvalidCell
    (case aC_InvalidCell => k_is)
    (case aC_InvalidNumber => k_is)
    (case aC_InvalidSize => k_is)
    (case aC_InvalidTurn => k_is)
    (case aC_Rule => k_is)
    (case pg_Rule => k_is)
    (case hd_Rule => k_is)
    (case po_Rule => k_is)
    (case sa_Rule => k_is)
    (case ma_Rule => k_is)
    (case kC_Rule => k_is)
    (case aC_SquareError => k_is)
    (case n_Rule_a => k_is)
    (case n_Rule_b => k_is)
    (case n_Rule_d => k_is)
    (case a_Rule___init__ => k_is)
    (case i_Rule___init__ => k_is)
    (case l_Rule___init__ => k_is)
    (case c_Rule___init__ => k_is)
    (case k_Rule___init__ => k_is)
    (case a__law_take => k_is)
    (case l__law_take => k_is)
    (case c__law_take => k_is)
    (case k__law_take => k_is)
    (case a__law_bad_place => k_is)
    (case l__law_bad_place => k_is)
    (case c__law_bad_place => k_is)
    (case k__law_bad_place => k_is)
    (case a_Rule__value => k_is)
    (case i_Rule__value => k_is)
    (case l_Rule__value => k_is)
    (case c_Rule__value => k_is)
    (case k_Rule__value => k_is)
    (case a_SquareError___init__ => k_is)
    (case i_SquareError___init__ => k_is)
    (case t_SquareError___init__ => k_is)
    (case l_SquareError___init__ => k_is)
    (case c_SquareError___init__ => k_is)
    (case k_SquareError___init__ => k_is)
    (case a_check_cell => k_is)
    (case l_check_cell => k_is)
    (case c_check_cell => k_is)
    (case k_check_cell => k_is)
    (case a_check_size => k_is)
    (case l_check_size => k_is)
    (case c_check_size => k_is)
    (case k_check_size => k_is)
    (case a_Rule_sign => k_is)
    (case i_Rule_sign => k_is)
    (case l_Rule_sign => k_is)
    (case c_Rule_sign => k_is)
    (case k_Rule_sign => k_is)
    (case a__law_sign => k_is)
    (case l__law_sign => k_is)
    (case c__law_sign => k_is)
    (case k__law_sign => k_is)
    (case a__law_whole => k_is)
    (case l__law_whole => k_is)
    (case c__law_whole => k_is)
    (case k__law_whole => k_is)
    (case a__law_good => k_is)
    (case l__law_good => k_is)
    (case c__law_good => k_is)
    (case k__law_good => k_is)
    (case a__law_near => k_is)
    (case l__law_near => k_is)
    (case c__law_near => k_is)
    (case k__law_near => k_is)
    (case a__law_base => k_is)
    (case l__law_base => k_is)
    (case c__law_base => k_is)
    (case k__law_base => k_is)
    (case a__law_no_cell => k_is)
    (case l__law_no_cell => k_is)
    (case c__law_no_cell => k_is)
    (case k__law_no_cell => k_is)
    (case a_Rule_square => k_is)
    (case i_Rule_square => k_is)
    (case l_Rule_square => k_is)
    (case c_Rule_square => k_is)
    (case k_Rule_square => k_is)
    (case a__law_square => k_is)
    (case l__law_square => k_is)
    (case c__law_square => k_is)
    (case k__law_square => k_is)
    (case a__law_no_size => k_is)
    (case l__law_no_size => k_is)
    (case c__law_no_size => k_is)
    (case k__law_no_size => k_is)
    (case a__law_size => k_is)
    (case l__law_size => k_is)
    (case c__law_size => k_is)
    (case k__law_size => k_is)
    (case a__law_asked => k_is)
    (case l__law_asked => k_is)
    (case c__law_asked => k_is)
    (case k__law_asked => k_is)
    (case a__law_pool => k_is)
    (case l__law_pool => k_is)
    (case c__law_pool => k_is)
    (case k__law_pool => k_is)
    (case a_law => k_is)
    (case l_law => k_is)
    (case c_law => k_is)
    (case k_law => k_is)
    (case zz_ValueError => k_is)
    (case zz_bool => k_is)
    (case zz_int => k_is)
    (case zz_isinstance => k_is)
    (case zz_len => k_is)
    (case zz_max => k_is)
    (case zz_min => k_is)
    (case zz_range => k_is)
    (case zz_tuple => k_is)
    (case xL_InvalidSize => k_is)
    (case sa_InvalidSize => k_is)
    (case eC_InvalidSize => k_is)
    (case tC_InvalidSize => k_is)
    (case kC_InvalidSize => k_is)
    (case ga_InvalidSize => k_is)
    (case gg_InvalidSize => k_is)
    (case hd_InvalidSize => k_is)
    (case ca_InvalidSize => k_is)
    (case hcn_err => k_is)
    (case hct_err => k_is)
    (case cm_InvalidSize => k_is)
    (case hvn_InvalidSize => k_is)
    (case hii_InvalidSize => k_is)
    (case eC_InvalidNumber => k_is)
    (case tC_InvalidNumber => k_is)
    (case hd_InvalidNumber => k_is)
    (case hsb_InvalidSize_InvalidNumber => first | k_is | rfl)
    (case eC_InvalidTurn => k_is)
    (case tC_InvalidTurn => k_is)
    (case hd_InvalidTurn => k_is)
    (case hsb_InvalidSize_InvalidTurn => first | k_is | rfl)
    (case hsb_InvalidSize_InvalidSize => first | k_is | rfl)
    (case eC_InvalidCell => k_is)
    (case tC_InvalidCell => k_is)
    (case hd_InvalidCell => k_is)
    (case hsb_InvalidSize_InvalidCell => first | k_is | rfl)
    (case eC_SquareError => k_is)
    (case tC_SquareError => k_is)
    (case hd_SquareError => k_is)
    (case hsb_InvalidSize_SquareError => first | k_is | rfl)
    (case hkv_InvalidSize => k_is)
    (case xL_InvalidCell => k_is)
    (case sa_InvalidCell => k_is)
    (case kC_InvalidCell => k_is)
    (case ga_InvalidCell => k_is)
    (case gg_InvalidCell => k_is)
    (case ca_InvalidCell => k_is)
    (case cm_InvalidCell => k_is)
    (case hvn_InvalidCell => k_is)
    (case hii_InvalidCell => k_is)
    (case hsb_InvalidCell_InvalidNumber => first | k_is | rfl)
    (case hsb_InvalidCell_InvalidTurn => first | k_is | rfl)
    (case hsb_InvalidCell_InvalidSize => first | k_is | rfl)
    (case hsb_InvalidCell_InvalidCell => first | k_is | rfl)
    (case hsb_InvalidCell_SquareError => first | k_is | rfl)
    (case hkv_InvalidCell => k_is)
