import PyProof.Rows.All
import Wide.All
import OpenK.AllK
import Wide.FinOn
import HandS.ForMost
import HandS.Wide
import HandS.IsInst
import HandS.Evl
import HandS.ForExc
import HandS.ExcIs
import HandS.WideBits
import HandS.AnyAll
import HandS.Codes
import HandS.Comp
import HandS.Dict
import HandS.EndTab
import HandS.ExcField
import HandS.ExcInit
import HandS.ExcValue
import HandS.Iter
import HandS.More
import HandS.StrMore
import HandS.Text
import HandS.Walk
import KE.KExcIs
import PySem.Challenge.RW_cardwright_k00_errors_and_limits
set_option Elab.async false
set_option linter.all false
set_option maxRecDepth 100000
set_option maxHeartbeats 4000000
namespace WP
open PySem PySem.Spec PyProof.Rows L2

/-! ### a def that may be called -/
structure Callee (P : Program) (w : World) (K : PySem.W.Frag) (mg : Str → Option Value) (base : Heap) (CX : CXT) (lv : Nat) (nm : Str) (ps : List Str) (sp : Sp) : Prop where
  ex : ∃ (f : Addr) (fd : FuncData), FnOk P w K mg base CX lv f fd ps sp ∧ mg nm = some (.ref f) ∧ PySem.W.keepIn K (.ref f) = true ∧ Binds K fd ps []
theorem Callee.mk' {P : Program} {w : World} {K : PySem.W.Frag} {mg : Str → Option Value} {base : Heap} {CX : CXT} {lv : Nat} {nm : Str} {ps : List Str} {sp : Sp} {f : Addr} {fd : FuncData}
    (h : FnOk P w K mg base CX lv f fd ps sp) (m : mg nm = some (.ref f)) (k : PySem.W.keepIn K (.ref f) = true) (b : Binds K fd ps []) : Callee P w K mg base CX lv nm ps sp := ⟨⟨f, fd, h, m, k, b⟩⟩
section
variable {X : Cx} {CX : CXT} {k j : Nat} {ps : List Str} {sp : Sp} {E : XK} {x : Str} {p pos : Pos} {e : Expr} {es : List Expr} {t : TA}
theorem pe_callC (C : Callee X.prog X.w X.K X.mg X.base CX k x ps sp) (hr : Room j X.A) (hg : Gl X x) (hx : Passes CX X E) (ha : PA X (e :: es) t) (hl : k ≤ j := by decide)
    (hdb : (x == ("__debug__" : Str)) = false := by decide) (he : starEach (e :: es) X.env = (false, eval e X.env) :: starEach es X.env := by rfl) (hpl : (backTo pos (starEach es X.env)).any (·.1) = false := by rfl) :
    PE X (.Call (.Name x p) (e :: es) [] pos) (tCall sp [] E t) := by
  obtain ⟨f, fd, F, hm, hk, hb⟩ := C.ex
  exact pe_call F (hr.mono hl) hg hm hk hb .nil hx ha hdb he hpl
theorem pe_callC0 (C : Callee X.prog X.w X.K X.mg X.base CX k x ps sp) (hr : Room j X.A) (hg : Gl X x) (hx : Passes CX X E) (hl : k ≤ j := by decide)
    (hdb : (x == ("__debug__" : Str)) = false := by decide) : PE X (.Call (.Name x p) [] [] pos) (tCall sp [] E tNil) := by
  obtain ⟨f, fd, F, hm, hk, hb⟩ := C.ex
  exact pe_call0 F (hr.mono hl) hg hm hk hb .nil hx hdb
end

/-! ### readings, a step at a time -/
section
variable {σ : L2.St} {H : Hp} {D : Ends} {t u : TS} {te ta tb : TE} {tt tu : TT} {g : TG} {Q : VK} {QB : Bool → Hp → Prop} {QA : List V → Hp → Prop} {r : R2} {i j : Int} {n : Nat} {v x y : V}
theorem seq (h : t { D with nx := u D } σ H) : tSeq t u D σ H := h
theorem asg (h : te σ H fun x H1 => g x σ H1 D.nx) : tAsg te g D σ H := h
theorem name {QS : L2.St → Hp → Prop} (h : QS (σ.set n (some v)) H) : gName n v σ H QS := h
theorem var (e : σ[n]? = some (some v)) (h : Q v H) : tVar n σ H Q := ⟨v, e, h⟩
theorem con (h : Q v H) : tC v σ H Q := h
theorem op (h : ta σ H fun x H1 => tb σ H1 fun y H2 => r x y H2 Q) : tOp r ta tb σ H Q := h
theorem un {ru : V → Hp → VK → Prop} (h : ta σ H fun x H1 => ru x H1 Q) : tUn ru ta σ H Q := h
theorem rU_ {g : Int → V} (h : Q (g i) H) : rU g (.int i) H Q := ⟨i, rfl, h⟩
theorem i0 {g : Int → Int → V} (h : Q (g i j) H) : rI0 g (.int i) (.int j) H Q := ⟨i, j, rfl, rfl, h⟩
theorem iC {C : Int → Int → Prop} {g : Int → Int → V} (c : C i j) (h : Q (g i j) H) : rI C g (.int i) (.int j) H Q := ⟨i, j, rfl, rfl, c, h⟩
theorem eqS (s : scal x y = true) (h : Q (.bl (decide (x = y))) H) : rEq x y H Q := ⟨s, h⟩
theorem neS (s : scal x y = true) (h : Q (.bl (!decide (x = y))) H) : rNe x y H Q := ⟨s, h⟩
theorem ifS (h : tt σ H fun b H1 => if b = true then t D σ H1 else u D σ H1) : tIfS tt t u D σ H := h
theorem ifE (h : tt σ H fun b H1 => if b = true then ta σ H1 Q else tb σ H1 Q) : tIf tt ta tb σ H Q := h
theorem test (h : te σ H fun x H1 => ∃ k, x = .bl k ∧ QB k H1) : tTest te σ H QB := h
theorem bt (h : te σ H fun x H1 => ∃ k, x = .bl k ∧ QB k H1) : tB te σ H QB := h
theorem isb {b : Bool} (h : QB b H) : ∃ k, V.bl b = V.bl k ∧ QB k H := ⟨b, rfl, h⟩
theorem ret (h : te σ H D.rt) : tRet te D σ H := h
theorem retN (h : D.rt .non H) : tRetN D σ H := h
theorem drop (h : te σ H fun _ H1 => D.nx σ H1) : tDrop te D σ H := h
theorem next (h : D.nx σ H) : tNext D σ H := h
theorem brk (h : D.bk σ H) : tBreak D σ H := h
theorem cont (h : D.ct σ H) : tCont D σ H := h
theorem cb {rc : List V → Hp → VK → Prop} {a : TA} (h : a σ H fun vs H1 => rc vs H1 Q) : tCB rc a σ H Q := h
theorem call {sp : Sp} {E : XK} {a : TA} (h : a σ H fun vs H1 => sp (vs ++ []) H1 Q E) : tCall sp [] E a σ H Q := h
theorem cons {a : TA} (h : te σ H fun x H1 => a σ H1 fun xs H2 => QA (x :: xs) H2) : tCons te a σ H QA := h
theorem nil (h : QA [] H) : tNil σ H QA := h
theorem tup {a : TA} (h : a σ H fun xs H1 => xs.length ≤ sizeLine ∧ ∀ p, H1 p = none → Q (.ref p) (upd H1 p (.tup xs))) : tTup a σ H Q := h
theorem lst {a : TA} (h : a σ H fun xs H1 => xs.length ≤ sizeLine ∧ ∀ p, H1 p = none → Q (.ref p) (upd H1 p (.lst xs))) : tLst a σ H Q := h
theorem notT (h : tt σ H fun c H1 => QB (!c) H1) : tNot tt σ H QB := h
theorem andT (h : tt σ H fun c H1 => if c = true then tu σ H1 QB else QB false H1) : tAnd tt tu σ H QB := h
theorem orT (h : tt σ H fun c H1 => if c = true then QB true H1 else tu σ H1 QB) : tOr tt tu σ H QB := h
theorem andV (h : ta σ H fun x H1 => ∃ c, x = .bl c ∧ if c = true then tb σ H1 Q else Q (.bl false) H1) : tAndV ta tb σ H Q := h
theorem orV (h : ta σ H fun x H1 => ∃ c, x = .bl c ∧ if c = true then Q (.bl true) H1 else tb σ H1 Q) : tOrV ta tb σ H Q := h
theorem notV (h : ta σ H fun x H1 => ∃ c, x = .bl c ∧ Q (.bl (!c)) H1) : tNotV ta σ H Q := h
theorem isbV {b : Bool} {R : Bool → Prop} (h : R b) : ∃ k, V.bl b = V.bl k ∧ R k := ⟨b, rfl, h⟩
theorem sl {r : V → Option Int → Option Int → Hp → VK → Prop} {tl th : TO} (h : te σ H fun x H1 => tl σ H1 fun l H2 => th σ H2 fun u H3 => r x l u H3 Q) : tSl r te tl th σ H Q := h
theorem noPart {QO : Option Int → Hp → Prop} (h : QO none H) : tNoPart σ H QO := h
theorem part {QO : Option Int → Hp → Prop} (h : te σ H fun x H1 => ∃ i, x = .int i ∧ QO (some i) H1) : tPart te σ H QO := h
theorem isi {R : Int → Prop} (h : R i) : ∃ k, V.int i = V.int k ∧ R k := ⟨i, rfl, h⟩
/-- tests -/
theorem br {c A B : Prop} [Decidable c] (h1 : c → A) (h2 : ¬ c → B) : if decide c = true then A else B := by
  by_cases h : c
  · rw [decide_eq_true h, if_pos rfl]; exact h1 h
  · rw [decide_eq_false h, if_neg Bool.false_ne_true]; exact h2 h
theorem brN {c A B : Prop} [Decidable c] (h1 : ¬ c → A) (h2 : c → B) : if (!decide c) = true then A else B := by
  by_cases h : c
  · rw [decide_eq_true h]; exact iteF (h2 h)
  · rw [decide_eq_false h]; exact iteT (h1 h)
theorem brT {b : Bool} {A B : Prop} (e : b = true) (h : A) : if b = true then A else B := by rw [if_pos e]; exact h
theorem brF {b : Bool} {A B : Prop} (e : b = false) (h : B) : if b = true then A else B := by rw [if_neg (by rw [e]; exact Bool.false_ne_true)]; exact h
theorem brB {b : Bool} {A B : Prop} (h1 : b = true → A) (h2 : b = false → B) : if b = true then A else B := by
  cases b
  · exact iteF (h2 rfl)
  · exact iteT (h1 rfl)
theorem dec_int {i j : Int} : decide (V.int i = V.int j) = decide (i = j) := by
  by_cases h : i = j
  · rw [decide_eq_true h, decide_eq_true (congrArg V.int h)]
  · rw [decide_eq_false h, decide_eq_false fun e => h (V.int.inj e)]
theorem dec_str {i j : Str} : decide (V.str i = V.str j) = decide (i = j) := by
  by_cases h : i = j
  · rw [decide_eq_true h, decide_eq_true (congrArg V.str h)]
  · rw [decide_eq_false h, decide_eq_false fun e => h (V.str.inj e)]
theorem dec_bl {i j : Bool} : decide (V.bl i = V.bl j) = decide (i = j) := by
  by_cases h : i = j
  · rw [decide_eq_true h, decide_eq_true (congrArg V.bl h)]
  · rw [decide_eq_false h, decide_eq_false fun e => h (V.bl.inj e)]
theorem eqI (h : Q (.bl (decide (i = j))) H) : rEq (.int i) (.int j) H Q := ⟨rfl, by rw [dec_int]; exact h⟩
theorem neI (h : Q (.bl (!decide (i = j))) H) : rNe (.int i) (.int j) H Q := ⟨rfl, by rw [dec_int]; exact h⟩
theorem eqT {a b : Str} (h : Q (.bl (decide (a = b))) H) : rEq (.str a) (.str b) H Q := ⟨rfl, by rw [dec_str]; exact h⟩
theorem neT {a b : Str} (h : Q (.bl (!decide (a = b))) H) : rNe (.str a) (.str b) H Q := ⟨rfl, by rw [dec_str]; exact h⟩
theorem eqB {a b : Bool} (h : Q (.bl (decide (a = b))) H) : rEq (.bl a) (.bl b) H Q := ⟨rfl, by rw [dec_bl]; exact h⟩
theorem neB {a b : Bool} (h : Q (.bl (!decide (a = b))) H) : rNe (.bl a) (.bl b) H Q := ⟨rfl, by rw [dec_bl]; exact h⟩
end
/-! ### numbers of a known number of bits -/
theorem sz2 : (2 : Nat) ≤ sizeLine := by rw [sizeLine_eq]; decide
theorem sz {n : Nat} (h : n ≤ 1000000) : n ≤ sizeLine := by rw [sizeLine_eq]; omega
end WP
namespace WP
open PySem PySem.Spec PyProof.Rows L2
section
variable {X : Cx} {x : Str} {v : V} {pos : Pos}
theorem pe_const (hg : Gl X x) (h : ∃ u, X.mg x = some u ∧ RelV v u) (hd : (x == ("__debug__" : Str)) = false := by decide) : PE X (.Name x pos) (tC v) := by
  obtain ⟨u, hm, r⟩ := h
  exact pe_glob hg hm r hd
end
/-- a number of at most a bits -/
def Bt (i : Int) (a : Nat) : Prop := i.natAbs < 2 ^ a
theorem Bt.mono {i : Int} {a b : Nat} (h : Bt i a) (l : a ≤ b) : Bt i b := Nat.lt_of_lt_of_le h (Nat.pow_le_pow_right (by decide) l)
theorem Bt.mul {i j : Int} {a b : Nat} (h : Bt i a) (k : Bt j b) : Bt (i * j) (a + b) := wide_lt h k
theorem Bt.neg {i : Int} {a : Nat} (h : Bt i a) : Bt (-i) a := by unfold Bt at *; rw [Int.natAbs_neg]; exact h
theorem Bt.add {i j : Int} {a : Nat} (h : Bt i a) (k : Bt j a) : Bt (i + j) (a + 1) := by
  unfold Bt at *
  have := Int.natAbs_add_le i j
  rw [Nat.pow_succ]; omega
theorem Bt.sub {i j : Int} {a : Nat} (h : Bt i a) (k : Bt j a) : Bt (i - j) (a + 1) := by
  rw [Int.sub_eq_add_neg]; exact h.add k.neg
theorem Bt.le {i j : Int} {a : Nat} (h : Bt i a) (k : j.natAbs ≤ i.natAbs) : Bt j a := Nat.lt_of_le_of_lt k h
theorem Bt.ten (n : Nat) : Bt (10 ^ n) (4 * n + 1) := by
  unfold Bt
  have e : ((10 : Int) ^ n).natAbs = 10 ^ n := by rw [Int.natAbs_pow]; rfl
  rw [e]
  have h : 10 ^ n ≤ 16 ^ n := Nat.pow_le_pow_left (by decide) n
  have h2 : (16 : Nat) ^ n = 2 ^ (4 * n) := by rw [show (16 : Nat) = 2 ^ 4 from rfl, ← Nat.pow_mul]
  rw [h2] at h
  rw [Nat.pow_succ]
  have : 0 < 2 ^ (4 * n) := Nat.pow_pos (by decide)
  omega
theorem Bt.w {i j : Int} {a b : Nat} (h : Bt i a) (k : Bt j b) (l : a + b ≤ 999998 := by omega) : CMulW i j :=
  wide_mul (h.mono (Nat.le_succ a)) (k.mono (Nat.le_succ b)) (Nat.succ_pos _) (Nat.succ_pos _) (by omega)
theorem Bt.d {j : Int} {b : Nat} (h : 0 < j) (k : Bt j b) (l : b ≤ 8999 := by omega) : CDivW 0 j := wide_div h (k.mono (Nat.le_succ b)) (Nat.succ_pos _) (by omega)
theorem Bt.d' {i j : Int} {b : Nat} (h : 0 < j) (k : Bt j b) (l : b ≤ 8999 := by omega) : CDivW i j := Bt.d h k l
theorem ten_pos (n : Nat) : (0 : Int) < 10 ^ n := Int.pow_pos (by decide)
end WP
namespace WP
open PySem PySem.Spec PyProof.Rows L2
/-! ### what comes back -/
def RetT (xs : List V) (H : Hp) (Q : VK) : Prop := ∀ p H', Same H H' → H' p = some (.tup xs) → Q (.ref p) H'
def RetL (xs : List V) (H : Hp) (Q : VK) : Prop := ∀ p H', H p = none → Same H H' → H' p = some (.lst xs) → Q (.ref p) H'
def RetV (v : V) (H : Hp) (Q : VK) : Prop := ∀ H', Same H H' → Q v H'
theorem same_new {H : Hp} {p : Addr} {o : HO} (h : H p = none) : Same H (upd H p o) := fun b u e => by
  rw [upd_ne (ne_of_none e h)]; exact e
theorem same_mut {H H' : Hp} {p : Addr} {o : HO} (e : Same H H') (h : H p = none) : Same H (upd H' p o) := fun a u ha => by
  rw [upd_ne (ne_of_none ha h)]; exact e a u ha
theorem sqt {K : PySem.W.Frag} {H H' : Hp} {a : Addr} {xs : List V} (e : Same H H') (h : SqT K H a xs) : SqT K H' a xs := by
  rcases h with (h | ⟨o, h⟩) | h
  · exact .inl (.inl (e _ _ h))
  · exact .inl (.inr ⟨o, e _ _ h⟩)
  · exact .inr h
theorem RetT.new {xs : List V} {H H' : Hp} {Q : VK} (k : RetT xs H Q) (e : Same H H') : ∀ p, H' p = none → Q (.ref p) (upd H' p (.tup xs)) := fun p hp =>
  k p _ (e.trans (same_new hp)) upd_same
theorem RetL.new {xs : List V} {H H' : Hp} {Q : VK} (k : RetL xs H Q) (e : Same H H') : ∀ p, H' p = none → Q (.ref p) (upd H' p (.lst xs)) := fun p hp =>
  k p _ (e.free hp) (e.trans (same_new hp)) upd_same
/-- a decimal's two parts -/
abbrev dv (u : Int) (s : Nat) : List V := [.int u, .int (s : Int)]
theorem at0 {α : Type} {x : α} {xs : List α} : atI (x :: xs) (0 : Int) = some x := atI_nat (j := 0) rfl
theorem at1 {α : Type} {x y : α} {xs : List α} : atI (x :: y :: xs) (1 : Int) = some y := atI_nat (j := 1) rfl
theorem at2 {α : Type} {x y z : α} {xs : List α} : atI (x :: y :: z :: xs) (2 : Int) = some z := atI_nat (j := 2) rfl
theorem at3 {α : Type} {x y z u : α} {xs : List α} : atI (x :: y :: z :: u :: xs) (3 : Int) = some u := atI_nat (j := 3) rfl
theorem at4 {α : Type} {x y z u v : α} {xs : List α} : atI (x :: y :: z :: u :: v :: xs) (4 : Int) = some v := atI_nat (j := 4) rfl
section
variable {K : PySem.W.Frag} {H : Hp} {p : Addr} {xs : List V} {v : V} {i : Int} {Q : VK}
theorem ixT (h : SqT K H p xs) (a : atI xs i = some v) (q : Q v H) : rIxT K (.ref p) (.int i) H Q := ⟨p, xs, i, v, rfl, rfl, h, a, q⟩
theorem ixL (h : SqL K H p xs) (a : atI xs i = some v) (q : Q v H) : rIxL K (.ref p) (.int i) H Q := ⟨p, xs, i, v, rfl, rfl, h, a, q⟩
theorem unT {n : Nat} {t : TGs} {σ : L2.St} {QS : L2.St → Hp → Prop} (h : SqT K H p xs) (l : xs.length = n) (q : t xs σ H QS) : gTup K n t (.ref p) σ H QS := ⟨p, xs, rfl, h, l, q⟩
theorem gsCons {g : TG} {gs : TGs} {x : V} {r : List V} {σ : L2.St} {QS : L2.St → Hp → Prop} (q : g x σ H fun σ' H' => gs r σ' H' QS) : gCons g gs (x :: r) σ H QS := ⟨x, r, rfl, q⟩
theorem gsNil {σ : L2.St} {QS : L2.St → Hp → Prop} (q : QS σ H) : gNil [] σ H QS := ⟨rfl, q⟩
end
end WP
namespace WP
open PySem PySem.Spec PyProof.Rows L2
section
variable {K : PySem.W.Frag} {H : Hp} {p : Addr} {xs : List V} {v x : V} {i : Int} {Q : VK} {σ : L2.St} {D : Ends}
theorem forl {wi : TI} {g : TG} {tb : TS} (h : wi σ H fun J H1 => ∃ W : Nat → Nat → L2.St → Hp → Prop, (∃ m, W 0 m σ H1) ∧ ∀ i m σ H, W i m σ H →
  (J.stop i H ∧ D.nx σ H) ∨ (J.go i H ∧ ∃ N : L2.St → Hp → Prop, (∀ σ' H', N σ' H' → ∃ m', m' < m ∧ W (i + 1) m' σ' H') ∧ ∀ x H', J.yld i H x H' → g x σ H' fun σ2 H2 => tb { D with nx := N, ct := N, bk := D.nx } σ2 H2)) : tFor wi g tb D σ H := h
theorem rng1 {ta : TA} {R : It → Hp → Prop} (h : ta σ H fun vs H1 => ∃ j : Int, vs = [.int j] ∧ -(2 ^ 62) ≤ j ∧ j < 2 ^ 62 ∧ R (Itr 0 j.toNat) H1) : iRng1 ta σ H R := h
theorem rng2 {ta : TA} {R : It → Hp → Prop} (h : ta σ H fun vs H1 => ∃ i j : Int, vs = [.int i, .int j] ∧ (-(2 ^ 62) ≤ i ∧ i < 2 ^ 62 ∧ -(2 ^ 62) ≤ j ∧ j < 2 ^ 62) ∧ R (Itr i (j - i).toNat) H1) : iRng2 ta σ H R := h
theorem walkL {tl : TE} {R : It → Hp → Prop} (h : tl σ H fun x H1 => ∃ a, x = .ref a ∧ (∃ xs, SqL K H1 a xs) ∧ R (Itl K a) H1) : iList K tl σ H R := h
theorem walkT {tl : TE} {R : It → Hp → Prop} (h : tl σ H fun x H1 => ∃ a, x = .ref a ∧ (∃ xs, SqT K H1 a xs) ∧ R (Itt K a) H1) : iTup K tl σ H R := h
theorem isT {t n : String} {b : Bool} (ty : TyX K H x (.type t)) (q : Q (.bl b) H) (hb : kitB t n = some b := by decide +kernel) : rIsi K [x, .ty n] H Q :=
  ⟨x, .ty n, _, _, b, rfl, ClsV.ty n, ty, kit_ty hb, q⟩
theorem isY {t n : String} (ty : TyX K H x (.type t)) (q : Q (.bl true) H) (hb : kitB t n = some true := by decide +kernel) : rIsi K [x, .ty n] H Q := isT ty q hb
theorem isN {t n : String} (ty : TyX K H x (.type t)) (q : Q (.bl false) H) (hb : kitB t n = some false := by decide +kernel) : rIsi K [x, .ty n] H Q := isT ty q hb
def rLen (K : PySem.W.Frag) : List V → Hp → VK → Prop := fun xs H Q => ∃ x n, xs = [x] ∧ LenV K x H n ∧ Q (.int (n : Nat)) H
theorem c_len {X : Cx} : CallR X (.builtin "len") (rLen X.K) := call_len
theorem lenL (h : SqL K H p xs) (q : Q (.int (xs.length : Int)) H) : rLen K [V.ref p] H Q := ⟨_, _, rfl, .inl ⟨xs, h, rfl⟩, q⟩
theorem lenT (h : SqT K H p xs) (q : Q (.int (xs.length : Int)) H) : rLen K [V.ref p] H Q := ⟨_, _, rfl, .inr ⟨xs, h, rfl⟩, q⟩
theorem lenS {z : Str} (h : z.length ≤ sizeLine) (q : Q (.int (z.length : Int)) H) : rLen K [V.str z] H Q := ⟨_, _, rfl, ⟨h, rfl⟩, q⟩
def rInt1 : List V → Hp → VK → Prop := fun xs H Q => (∃ i, xs = [.int i] ∧ Q (.int i) H) ∨ ∃ k, xs = [.bl k] ∧ Q (.int (if k then 1 else 0)) H
theorem c_int1 {X : Cx} : CallR X (.type "int") rInt1 := call_int1
theorem intI (q : Q (.int i) H) : rInt1 [V.int i] H Q := .inl ⟨i, rfl, q⟩
theorem intB {b : Bool} (q : Q (.int (if b then 1 else 0)) H) : rInt1 [V.bl b] H Q := .inr ⟨b, rfl, q⟩
def rAbs : List V → Hp → VK → Prop := fun xs H Q => ∃ i, xs = [.int i] ∧ Q (.int (if i < 0 then -i else i)) H
theorem c_abs {X : Cx} : CallR X (.builtin "abs") rAbs := call_abs
theorem absI (q : Q (.int (i.natAbs : Int)) H) : rAbs [V.int i] H Q := ⟨i, rfl, by
  have e : (if i < 0 then -i else i) = (i.natAbs : Int) := by split <;> omega
  rw [e]; exact q⟩
def rMax2 : List V → Hp → VK → Prop := fun xs H Q => ∃ i j, xs = [.int i, .int j] ∧ Q (.int (if j > i then j else i)) H
def rMin2 : List V → Hp → VK → Prop := fun xs H Q => ∃ i j, xs = [.int i, .int j] ∧ Q (.int (if j < i then j else i)) H
theorem c_max2 {X : Cx} (hc : X.calm = true) : CallR X (.builtin "max") rMax2 := call_max2 hc
theorem c_min2 {X : Cx} (hc : X.calm = true) : CallR X (.builtin "min") rMin2 := call_min2 hc
theorem maxI {j : Int} (q : Q (.int (max i j)) H) : rMax2 [V.int i, V.int j] H Q := ⟨i, j, rfl, by
  have e : (if j > i then j else i) = max i j := by split <;> omega
  rw [e]; exact q⟩
theorem minI {j : Int} (q : Q (.int (min i j)) H) : rMin2 [V.int i, V.int j] H Q := ⟨i, j, rfl, by
  have e : (if j < i then j else i) = min i j := by split <;> omega
  rw [e]; exact q⟩
def rStrI : List V → Hp → VK → Prop := fun xs H Q => ∃ i : Int, xs = [.int i] ∧ i.natAbs.log2 < 1920 ∧ Q (.str (toString i)) H
theorem c_str {X : Cx} : CallR X (.type "str") rStrI := call_str_int
theorem strI (h : i.natAbs.log2 < 1920) (q : Q (.str (toString i)) H) : rStrI [V.int i] H Q := ⟨i, rfl, h, q⟩
def rListOf (K : PySem.W.Frag) : List V → Hp → VK → Prop := fun xs H Q => ∃ p ys, xs = [.ref p] ∧ (SqL K H p ys ∨ SqT K H p ys) ∧ ∀ l, H l = none → Q (.ref l) (upd H l (.lst ys))
theorem c_listOf {X : Cx} : CallR X (.type "list") (rListOf X.K) := call_list_of
theorem listL (h : SqL K H p xs) (q : ∀ l, H l = none → Q (.ref l) (upd H l (.lst xs))) : rListOf K [V.ref p] H Q := ⟨p, xs, rfl, .inl h, q⟩
theorem listT (h : SqT K H p xs) (q : ∀ l, H l = none → Q (.ref l) (upd H l (.lst xs))) : rListOf K [V.ref p] H Q := ⟨p, xs, rfl, .inr h, q⟩
def rTupOf (K : PySem.W.Frag) : List V → Hp → VK → Prop := fun xs H Q => ∃ p ys, xs = [.ref p] ∧ ((SqL K H p ys ∧ ∀ l, H l = none → Q (.ref l) (upd H l (.tup ys))) ∨ (SqT K H p ys ∧ Q (.ref p) H))
theorem c_tupOf {X : Cx} : CallR X (.type "tuple") (rTupOf X.K) := call_tuple_of
theorem tupL (h : SqL K H p xs) (q : ∀ l, H l = none → Q (.ref l) (upd H l (.tup xs))) : rTupOf K [V.ref p] H Q := ⟨p, xs, rfl, .inl ⟨h, q⟩⟩
def rOrd : List V → Hp → VK → Prop := fun xs H Q => ∃ x : Str, xs = [.str x] ∧ x.length = 1 ∧ Q (.int (x.cps.getD 0 0 : Nat)) H
theorem c_ord {X : Cx} : CallR X (.builtin "ord") rOrd := call_ord
theorem ordS {z : Str} (h : z.length = 1) (q : Q (.int (z.cps.getD 0 0 : Nat)) H) : rOrd [V.str z] H Q := ⟨z, rfl, h, q⟩
def rDivmod : List V → Hp → VK → Prop := fun xs H Q => ∃ i j, xs = [.int i, .int j] ∧ CDiv i j ∧ ∀ p, H p = none → Q (.ref p) (upd H p (.tup [.int (i / j), .int (i % j)]))
theorem c_divmod {X : Cx} : CallR X (.builtin "divmod") rDivmod := call_divmod
theorem sql {H' : Hp} {a : Addr} (e : Same H H') (h : SqL K H a xs) : SqL K H' a xs := e.seq h
theorem at_ints {ns : List Int} (h0 : 0 ≤ i) (h1 : i < (ns.length : Int)) : atI (ns.map V.int) i = some (.int (ns.getD i.toNat 0)) := by
  have e : i = ((i.toNat : Nat) : Int) := (Int.toNat_of_nonneg h0).symm
  rw [e]
  refine atI_nat ?_
  have hl : i.toNat < ns.length := by omega
  rw [List.getElem?_map, List.getElem?_eq_getElem hl, Int.toNat_natCast, List.getD_eq_getElem?_getD, List.getElem?_eq_getElem hl]
  rfl
end
end WP
namespace WP
open PySem PySem.Spec PyProof.Rows L2
section
variable {X : Cx}
theorem cut {t u : TS} {D : Ends} {σ : L2.St} {H : Hp} (Mid : L2.St → Hp → Prop) (h : t { D with nx := Mid } σ H) (k : ∀ σ' H', Mid σ' H' → u D σ' H') : Evl.tCut t u D σ H := ⟨Mid, h, k⟩
end
/-! ### == of data -/
section
variable {K : PySem.W.Frag} {H : Hp} {x y : V} {d e : PyData} {Q : VK}
theorem eqD (a : Dp K H x d) (b : Dp K H y e) (h : Q (.bl (PyData.eqv d e)) H) (s1 : SeqAt.shaped d = true := by first | rfl | decide +kernel) (s2 : SeqAt.shaped e = true := by first | rfl | decide +kernel) : rEqD K x y H Q := ⟨d, e, a, b, s1, s2, h⟩
theorem neD (a : Dp K H x d) (b : Dp K H y e) (h : Q (.bl (!PyData.eqv d e)) H) (s1 : SeqAt.shaped d = true := by first | rfl | decide +kernel) (s2 : SeqAt.shaped e = true := by first | rfl | decide +kernel) : rNeD K x y H Q := ⟨d, e, a, b, s1, s2, h⟩
theorem dpv {p : Addr} {u : Int} {s : Nat} (h : SqT K H p (dv u s)) : Dp K H (.ref p) (.tuple [.int u, .int (s : Int)]) := .tup h (.cons (.int _) (.cons (.int _) .nil))
end
end WP
namespace WP
open PySem PySem.Spec PyProof.Rows L2
abbrev MG := Str → Option Value
/-- the address that a module's name holds -/
def ca (mg : MG) (nm : Str) : Addr := match mg nm with
  | some (.ref a) => a
  | _ => 0
theorem ca_of {mg : MG} {nm : Str} {a : Addr} (h : mg nm = some (.ref a)) : ca mg nm = a := by unfold ca; rw [h]
/-! ### own exceptions without an __init__ of their own -/
structure ExcAt (K : PySem.W.Frag) (C : Addr) : Prop where
  x : PySem.W.excIn K C [.type "ValueError", .type "Exception", .type "BaseException", .type "object"] "ValueError.__new__" = true
  k : PySem.W.keepIn K (.ref C) = true
  t : PySem.W.typeIn K (.ref C) = some (.type "type")
  c : ExcC K C
structure ExcOk (K : PySem.W.Frag) (mg : MG) (nm : Str) : Prop where
  m : mg nm = some (.ref (ca mg nm))
  a : ExcAt K (ca mg nm)
theorem ExcOk.mk' {K : PySem.W.Frag} {mg : MG} {nm : Str} {C : Addr} (h : mg nm = some (.ref C)) (x : ExcAt K C) : ExcOk K mg nm := by
  have e := ca_of h
  exact ⟨by rw [e]; exact h, by rw [e]; exact x⟩
theorem ExcAt.raises {X : Cx} {C : Addr} (x : ExcAt X.K C) : Raises X (.ref C) := raises_own x.c.hs x.t
theorem ExcAt.catches {K : PySem.W.Frag} {C : Addr} (x : ExcAt K C) {cls : Value} {b : Bool} (h : PySem.W.subIn K cls (.ref C) = some b) : PySem.W.exmOne K cls (.ref C) = some b := PySem.W.exm_ref x.c.hs x.c.hd x.t h
section
variable {X : Cx} {x m : Str} {j : Nat} {p p2 pos pos2 : Pos} {W : WX}
theorem ps_raiseC (hc : X.calm = true) (tk : Takes X W) (e : ExcOk X.K X.mg x) (hg : Gl X x) (hdb : (x == ("__debug__" : Str)) = false := by decide) :
    PS X (.Raise (some (.Call (.Name x p) [.Constant (.str m) j p2] [] pos)) none pos2) (fun _ σ H => W (.ref (ca X.mg x)) none σ H) :=
  ps_raise hc tk (pmk_own PySem.F.excBase_ValueError e.a.x e.m e.a.k e.a.raises hg hdb)
end
/-- isinstance of the caught error -/
def rIsX (K : PySem.W.Frag) (a : Addr) (cls : Value) (d : Option Addr) : List V → Hp → VK → Prop := fun xs H Q => ∃ D, cls = .ref D ∧ d = none ∧ ExcC K D ∧ rIsE K D a xs H Q
theorem call_isX {X : Cx} {a : Addr} {oe : Obj} {cls : Value} {d : Option Addr} {pn : List (Addr × Obj)} (hz : Zc cls d oe) (hf : ∃ vs, oe.data = .fields vs) : CallR (X.suite a ((a, oe) :: pn)) (.builtin "isinstance") (rIsX X.K a cls d) := by
  intro pins s σ H xs us Q I r h
  obtain ⟨D, rfl, rfl, c, h⟩ := h
  exact call_isE c hz hf pins s σ H xs us Q I r h
theorem isX {K : PySem.W.Frag} {a D C : Addr} {b : Bool} {H : Hp} {Q : VK} (c : ExcC K D) (h : PySem.W.kitOne K (.ref D) (.ref C) = some b) (q : Q (.bl b) H) : rIsX K a (.ref D) none [.ref a, .ref C] H Q :=
  ⟨D, rfl, rfl, c, .ref C, .ref C, b, rfl, fun _ r => r, h, q⟩
section
variable {X : Cx} {CX' : CXT} {k j : Nat} {ps : List Str} {sp : Sp} {E : L2.St → XK} {E0 : XK} {x : Str} {p pos : Pos} {e : Expr} {es : List Expr} {t : TA}
theorem pe_callSC (C : Callee X.prog X.w X.K X.mg X.base (L2.CX X.prog X.w) k x ps sp) (hr : Room j X.A) (hg : Gl X x) (hx : ∀ σ, PassesAt (L2.CX X.prog X.w) X σ (E σ)) (ha : PA X (e :: es) t) (hl : k ≤ j := by decide)
    (hdb : (x == ("__debug__" : Str)) = false := by decide) (he : starEach (e :: es) X.env = (false, eval e X.env) :: starEach es X.env := by rfl) (hpl : (backTo pos (starEach es X.env)).any (·.1) = false := by rfl) :
    PE X (.Call (.Name x p) (e :: es) [] pos) (tCallS sp E t) := by
  obtain ⟨f, fd, F, hm, hk, hb⟩ := C.ex
  exact pe_callS F (hr.mono hl) hg hm hk hb hx ha hdb he hpl
/-- what a callee lets out leaves this def too -/
theorem passX {E : XK} {E₁ : Value → Shared → Prop} (hs : X.stack = X.env :: X.outer) (hf : X.env.frame = some X.env.locals) (hex : X.ex = [])
    (hx : X.xe = fun e s' => wpAny (model X.prog X.w) X.A (leaving X.env e) (fun _ s'' => L2.CX X.prog X.w X.outer X.H_0 X.s_0 E e s'') E₁ s') : Passes (L2.CX X.prog X.w) X E :=
  fun pins σ H s e s' I c => passes_call (takes_of hs hf hex hx) (fun _ _ _ _ z => z) pins σ H s e s' I c
end
theorem callS {sp : Sp} {E : L2.St → XK} {a : TA} {σ : L2.St} {H : Hp} {Q : VK} (h : a σ H fun vs H1 => sp vs H1 Q (E σ)) : tCallS sp E a σ H Q := h
end WP
namespace WP
open PySem PySem.Spec PyProof.Rows L2
def rDivmodW : List V → Hp → VK → Prop := fun xs H Q => ∃ i j, xs = [.int i, .int j] ∧ CDivP i j ∧ ∀ p, H p = none → Q (.ref p) (upd H p (.tup [.int (i / j), .int (i % j)]))
theorem c_divmodW {X : Cx} : CallR X (.builtin "divmod") rDivmodW := call_divmodW
theorem Bt.p {i j : Int} {a : Nat} (h : Bt i a) (hj : 0 < j) (l : a ≤ 4000 := by omega) : CDivP i j := divp_ok hj (by have := intBits_le h; omega)
theorem divW {i j : Int} {H : Hp} {Q : VK} (c : CDivP i j) (q : ∀ p, H p = none → Q (.ref p) (upd H p (.tup [.int (i / j), .int (i % j)]))) : rDivmodW [.int i, .int j] H Q := ⟨i, j, rfl, c, q⟩
end WP
namespace WP
open PySem PySem.Spec PyProof.Rows L2
/-- a callee that raises, called where it does not -/
theorem pass0X {X : Cx} : Passes (L2.CX X.prog X.w) X (fun _ _ _ => False) := fun pins σ H s e s' I c => passes_call (W := fun _ _ _ _ => False) takes0 (fun _ _ _ _ z => z) pins σ H s e s' I c
end WP
namespace WP
open PySem PySem.Spec PyProof.Rows L2
/-- no star -/
def noStar : Expr → Bool
  | .Starred _ _ => false
  | _ => true
theorem starEach_no {e : Expr} {es : List Expr} {env : Env} (h : noStar e = true) : starEach (e :: es) env = (false, eval e env) :: starEach es env := by
  cases e with
  | Starred a b => cases h
  | _ => rfl
theorem pa_consN {X : Cx} {e : Expr} {es : List Expr} {te : TE} {t : TA} (ha : PE X e te) (hr : PA X es t) (hs : noStar e = true := by rfl) : PA X (e :: es) (tCons te t) := pa_cons ha hr (starEach_no hs)
end WP

namespace WP
open PySem PySem.Spec PyProof.Rows L2
open SX (S S_len S_cat)
section
variable {X : Cx}
theorem pe_strL {x : Str} {j pos} (l : List Nat) (h : x = S l) : PE X (.Constant (.str x) j pos) (tC (.str (S l))) := by subst h; exact pe_str
/-- text * number -/
def rMulS : R2 := fun x y H Q => ∃ (a : Str) (i : Int), x = .str a ∧ y = .int i ∧ MulOk a i ∧ Q (.str (Txt.mul a i)) H
theorem op_mul_str : OpR X (binaryOp .Mult) rMulS := by
  intro pins s σ H x y v u Q I rx ry h
  obtain ⟨a, i, rfl, rfl, hz, q⟩ := h
  obtain ⟨t, rfl⟩ := rx
  obtain ⟨t', rfl⟩ := ry
  exact SB.mul hz fun t' k => ⟨.str _, H, I.tok _, ⟨_, rfl⟩, q⟩
def rAddS : R2 := fun x y H Q => ∃ (a b : Str), x = .str a ∧ y = .str b ∧ a.length + b.length ≤ sizeLine ∧ Q (.str (a ++ b)) H
theorem op_addS : OpR X (binaryOp .Add) rAddS := op_add_str
def rZfill : V → List V → Hp → VK → Prop := fun x xs H Q => ∃ (a : Str) (i : Int), x = .str a ∧ xs = [.int i] ∧ PadOk i = true ∧ Q (.str (Txt.zfill a i)) H
theorem m_zfill : MtR X "str.zfill" rZfill := mt_zfill
def rIntS : List V → Hp → VK → Prop := fun xs H Q => ∃ (a : Str) (n : Int), xs = [.str a] ∧ PySem.intText? a = some n ∧ a.length ≤ 640 ∧ Q (.int n) H
theorem c_intS : CallR X (.type "int") rIntS := call_int_str
end
section
variable {a b l : List Nat} {i : Int} {H : Hp} {Q : VK}
theorem catS (q : Q (.str (S (a ++ b))) H) (h : a.length + b.length ≤ sizeLine := by size_fits) : rAddS (.str (S a)) (.str (S b)) H Q := ⟨_, _, rfl, rfl, by rw [S_len, S_len]; exact h, by rw [S_cat]; exact q⟩
theorem reps1 (c : Nat) : ∀ (k : Nat) (acc : Array Nat), ((List.replicate k #[c]).foldl (· ++ ·) acc) = (acc.toList ++ List.replicate k c).toArray
  | 0, acc => by simp
  | k + 1, acc => by
    rw [List.replicate_succ, List.foldl_cons, reps1 c k]
    simp [List.replicate_succ]
theorem mul_S (c : Nat) (i : Int) : Txt.mul (S [c]) i = S (List.replicate i.toNat c) := by
  unfold Txt.mul
  split
  · rename_i h
    rw [show i.toNat = 0 by omega]; rfl
  · rename_i h
    split
    · rename_i h2
      have : i = 1 := by
        rw [Bool.or_eq_true] at h2
        rcases h2 with h2 | h2
        · exact eq_of_beq h2
        · exact absurd h2 (by rw [S_len]; exact Bool.false_ne_true)
      subst this
      rfl
    · show (⟨(List.replicate i.toNat #[c]).foldl (· ++ ·) #[]⟩ : Str) = _
      rw [reps1]; simp [S]
theorem mulOk1 (c : Nat) {i : Int} (h : i ≤ 100000) (h2 : -100000 ≤ i) : MulOk (S [c]) i := by
  refine ⟨by rw [decide_eq_false (by omega), decide_eq_false (by omega)]; rfl, fun h1 _ => ?_, fun h1 _ => ?_⟩
  · rw [S_len]
    show ¬ (((1 : Nat) : Int) > _)
    have : (1 : Int) ≤ (2 ^ 63 - 1) / i := by
      rw [Int.le_ediv_iff_mul_le (by omega)]; omega
    omega
  · rw [S_len]
    unfold Builtin.Str.tooLong
    exact decide_eq_false (by rw [sizeLine_eq]; show ¬ (1 * i.toNat > _); omega)
theorem mulS {c : Nat} (h : i ≤ 100000) (h2 : -100000 ≤ i) (q : Q (.str (S (List.replicate i.toNat c))) H) : rMulS (.str (S [c])) (.int i) H Q :=
  ⟨_, _, rfl, rfl, mulOk1 c h h2, by rw [mul_S]; exact q⟩
/-- zfill of a text without a sign -/
theorem zfill_S (h : ∀ c, l.head? = some c → c ≠ 43 ∧ c ≠ 45) (hi : 0 ≤ i) : Txt.zfill (S l) i = S (List.replicate (i.toNat - l.length) 48 ++ l) := by
  unfold Txt.zfill
  rw [S_len]
  split
  · rename_i h1
    rw [show i.toNat - l.length = 0 by omega]; rfl
  · unfold PySem.zfilled
    have e : (S l).cps[0]? = l.head? := by simp [S, List.head?_eq_getElem?]
    rw [e]
    have fin : Builtin.Str.padded (S l) (i.toNat - l.length) 0 48 = S (List.replicate (i.toNat - l.length) 48 ++ l) := by
      unfold Builtin.Str.padded
      simp [S]
    split
    · rename_i hc; exact absurd rfl (h _ hc).1
    · rename_i hc; exact absurd rfl (h _ hc).2
    · exact fin
theorem zfillS (h : ∀ c, l.head? = some c → c ≠ 43 ∧ c ≠ 45) (hi : 0 ≤ i) (h2 : i ≤ 100000) (q : Q (.str (S (List.replicate (i.toNat - l.length) 48 ++ l))) H) : rZfill (.str (S l)) [.int i] H Q :=
  ⟨_, _, rfl, rfl, by unfold PadOk fitsSsize; rw [decide_eq_false (by omega), decide_eq_false (by omega)]; unfold Builtin.Str.tooLong; rw [decide_eq_false (by rw [sizeLine_eq]; omega)]; rfl, by rw [zfill_S h hi]; exact q⟩
theorem lenS' (h : l.length ≤ sizeLine) (q : Q (.int (l.length : Int)) H) {K : PySem.W.Frag} : rLen K [V.str (S l)] H Q := ⟨_, _, rfl, ⟨by rw [S_len]; exact h, rfl⟩, by rw [S_len]; exact q⟩
theorem strN {n : Nat} (h : n.log2 < 1920) (q : Q (.str (S (TL.numL n))) H) : rStrI [V.int (n : Int)] H Q := ⟨_, rfl, by rw [Int.natAbs_natCast]; exact h, by
  have e : Str.ofString (toString ((n : Nat) : Int)) = S (TL.numL n) := SX.num_S n
  rw [e]; exact q⟩
theorem intSd (h : l.all (fun c => decide (48 ≤ c) && decide (c ≤ 57)) = true) (hne : l ≠ []) (hl : l.length ≤ 640) (q : Q (.int ((NumText.digitsVal l : Nat) : Int)) H) : rIntS [V.str (S l)] H Q :=
  ⟨_, _, rfl, SX.int_S h hne (by omega), by rw [S_len]; exact hl, q⟩
theorem slS {lo hi : Option Int} (z : Str) (h : z.length ≤ sizeLine) (q : Q (.str (Txt.slice z lo hi)) H) : rSlS (.str z) lo hi H Q := ⟨z, rfl, h, by rw [C8.cutS_slice]; exact q⟩
theorem slTo (hi : 0 ≤ i) (h : l.length ≤ sizeLine) (q : Q (.str (S (l.take i.toNat))) H) : rSlS (.str (S l)) none (some i) H Q := slS _ (by rw [S_len]; exact h) (by rw [SX.slice_to hi]; exact q)
theorem slFrom (hi : 0 ≤ i) (h : l.length ≤ sizeLine) (q : Q (.str (S (l.drop i.toNat))) H) : rSlS (.str (S l)) (some i) none H Q := slS _ (by rw [S_len]; exact h) (by rw [SX.slice_from hi]; exact q)
/-- an index from the end -/
theorem idx_neg_hi {l1 : Option Int} {n : Nat} {i : Int} (h : i < 0) (h2 : 0 ≤ i + n) : Builtin.Str.strSliceIndices l1 (some i) 1 n = Builtin.Str.strSliceIndices l1 (some (i + n)) 1 n := by
  have h1 : ¬ (i + n < 0) := by omega
  simp only [Builtin.Str.strSliceIndices, h, h1, if_false, if_true]
theorem idx_neg_lo {l1 : Option Int} {n : Nat} {i : Int} (h : i < 0) (h2 : 0 ≤ i + n) : Builtin.Str.strSliceIndices (some i) l1 1 n = Builtin.Str.strSliceIndices (some (i + n)) l1 1 n := by
  have h1 : ¬ (i + n < 0) := by omega
  simp only [Builtin.Str.strSliceIndices, h, h1, if_false, if_true]
theorem slice_toN (h : i < 0) (h2 : 0 ≤ i + (l.length : Int)) : Txt.slice (S l) none (some i) = S (l.take (i + (l.length : Int)).toNat) := by
  rw [← SX.slice_to h2]
  unfold Txt.slice
  rw [S_len, idx_neg_hi h h2]
theorem slice_fromN (h : i < 0) (h2 : 0 ≤ i + (l.length : Int)) : Txt.slice (S l) (some i) none = S (l.drop (i + (l.length : Int)).toNat) := by
  rw [← SX.slice_from h2]
  unfold Txt.slice
  rw [S_len, idx_neg_lo h h2]
theorem slToN (hi : i < 0) (h2 : 0 ≤ i + (l.length : Int)) (h : l.length ≤ sizeLine) (q : Q (.str (S (l.take (i + (l.length : Int)).toNat))) H) : rSlS (.str (S l)) none (some i) H Q := slS _ (by rw [S_len]; exact h) (by rw [slice_toN hi h2]; exact q)
theorem slFromN (hi : i < 0) (h2 : 0 ≤ i + (l.length : Int)) (h : l.length ≤ sizeLine) (q : Q (.str (S (l.drop (i + (l.length : Int)).toNat))) H) : rSlS (.str (S l)) (some i) none H Q := slS _ (by rw [S_len]; exact h) (by rw [slice_fromN hi h2]; exact q)
theorem eqTS {a b : List Nat} (h : Q (.bl (decide (a = b))) H) : rEq (.str (S a)) (.str (S b)) H Q := ⟨rfl, by
  have e : decide ((S a : Str) = S b) = decide (a = b) := by
    by_cases h : a = b
    · subst h; rw [decide_eq_true rfl, decide_eq_true rfl]
    · rw [decide_eq_false h, decide_eq_false fun z => h (SX.S_inj z)]
  rw [dec_str, e]; exact h⟩
theorem neTS {a b : List Nat} (h : Q (.bl (!decide (a = b))) H) : rNe (.str (S a)) (.str (S b)) H Q := ⟨rfl, by
  have e : decide ((S a : Str) = S b) = decide (a = b) := by
    by_cases h : a = b
    · subst h; rw [decide_eq_true rfl, decide_eq_true rfl]
    · rw [decide_eq_false h, decide_eq_false fun z => h (SX.S_inj z)]
  rw [dec_str, e]; exact h⟩
/-- range with a step -/
theorem rng3 {ta : TA} {σ : L2.St} {R : It → Hp → Prop} (h : ta σ H fun vs H1 => ∃ (i j c : Int) (n : Nat), vs = [.int i, .int j, .int c] ∧ RgC i j c n ∧ R (Itc i c n) H1) : iRng3 ta σ H R := h
end
/-! ### the figures of a number -/
/-- k figures of n -/
def padL : Nat → Nat → List Nat
  | 0, _ => []
  | k + 1, n => padL k (n / 10) ++ [48 + n % 10]
theorem padL_len : ∀ k n, (padL k n).length = k
  | 0, _ => rfl
  | k + 1, n => by unfold padL; rw [List.length_append, padL_len]; rfl
theorem numL_app : ∀ (k q r : Nat), 0 < q → r < 10 ^ k → TL.numL (q * 10 ^ k + r) = TL.numL q ++ padL k r
  | 0, q, r, _, hr => by
    have : r = 0 := by simp at hr; exact hr
    subst this
    simp [padL]
  | k + 1, q, r, hq, hr => by
    have e10 : 10 ^ (k + 1) = 10 ^ k * 10 := Nat.pow_succ ..
    have hp : 0 < 10 ^ k := Nat.pow_pos (by decide)
    have b : 10 ≤ q * 10 ^ (k + 1) + r := by
      have : 1 * 10 ^ (k + 1) ≤ q * 10 ^ (k + 1) := Nat.mul_le_mul_right _ hq
      omega
    have d : (q * 10 ^ (k + 1) + r) / 10 = q * 10 ^ k + r / 10 := by
      rw [e10, ← Nat.mul_assoc]; omega
    have m : (q * 10 ^ (k + 1) + r) % 10 = r % 10 := by
      rw [e10, ← Nat.mul_assoc]; omega
    rw [TL.numL_step b, d, m, numL_app k q (r / 10) hq (by omega)]
    rw [show padL (k + 1) r = padL k (r / 10) ++ [48 + r % 10] from rfl, List.append_assoc]
theorem padL_zero : ∀ k, padL k 0 = List.replicate k 48
  | 0 => rfl
  | k + 1 => by unfold padL; rw [show 0 / 10 = 0 from rfl, padL_zero k, List.replicate_succ']
theorem padL_num : ∀ (k n : Nat), 0 < k → n < 10 ^ k → padL k n = List.replicate (k - (TL.numL n).length) 48 ++ TL.numL n
  | k + 1, n, _, h => by
    by_cases c : n < 10
    · rw [TL.numL_lt c]
      unfold padL
      rw [show n / 10 = 0 by omega, padL_zero, show n % 10 = n by omega]
      rfl
    · have hk : 0 < k := by
        rcases k with _ | k
        · simp at h; omega
        · omega
      have e10 : 10 ^ (k + 1) = 10 ^ k * 10 := Nat.pow_succ ..
      rw [TL.numL_step (by omega)]
      unfold padL
      rw [padL_num k (n / 10) hk (by omega), List.length_append, List.append_assoc]
      congr 2
      simp
theorem numL_head {n c : Nat} (h : (TL.numL n).head? = some c) : c ≠ 43 ∧ c ≠ 45 := by
  have m : c ∈ TL.numL n := List.mem_of_head? h
  have := TL.numL_digits n c m
  omega
theorem digits_rep (n : Nat) : NumText.digitsVal (49 :: List.replicate n 48) = 10 ^ n := by
  unfold NumText.digitsVal
  rw [List.foldl_cons]
  have : ∀ (n a : Nat), (List.replicate n 48).foldl (fun acc c => acc * 10 + (c - 48)) a = a * 10 ^ n := by
    intro n
    induction n with
    | zero => intro a; simp
    | succ n ih => intro a; rw [List.replicate_succ, List.foldl_cons, ih, Nat.pow_succ]; rw [Nat.sub_self, Nat.add_zero, Nat.mul_assoc, Nat.mul_comm 10]
  rw [this]; simp
end WP
namespace WP
open PySem PySem.Spec PyProof.Rows L2
section
variable {K : PySem.W.Frag} {σ : L2.St} {H : Hp} {Q : VK} {x v : V} {p : Addr} {xs : List V}
theorem bm {T : String} {r : V → List V → Hp → VK → Prop} {to : TE} {t : TA} (h : to σ H fun x H1 => tyV K T x H1 ∧ t σ H1 fun xs H2 => r x xs H2 Q) : tBM K T r to t σ H Q := h
theorem tyS {z : Str} {A : Prop} (q : A) : tyV K "str" (.str z) H ∧ A := ⟨rfl, q⟩
theorem gsub {to ti : TE} {t : TSet} {QS : L2.St → Hp → Prop} (h : to σ H fun o H1 => ti σ H1 fun i H2 => t o i v H2 fun H3 => QS σ H3) : gSub to ti t v σ H QS := h
theorem setL {k : Int} {j : Nat} {R : Hp → Prop} (hp : H p = some (.lst xs)) (hj : ixN xs.length k = some j) (q : R (upd H p (.lst (xs.set j v)))) : rSetL (.ref p) (.int k) v H R := ⟨p, xs, k, j, rfl, rfl, hp, hj, q⟩
theorem appL (hp : H p = some (.lst xs)) (hz : xs.length < sizeLine) (q : Q .non (upd H p (.lst (xs ++ [v])))) : rAppend (.ref p) [v] H Q := ⟨p, xs, v, rfl, rfl, hp, hz, q⟩
theorem tyL {A : Prop} (hp : SqL K H p xs) (q : A) : tyV K "list" (.ref p) H ∧ A := ⟨.inl ⟨rfl, xs, hp⟩, q⟩
theorem tyT (h : SqT K H p xs) : TyX K H (.ref p) (.type "tuple") := by
  rcases h with (h | ⟨o, h⟩) | h
  · exact .base (.tup h)
  · exact .fTuple h
  · obtain ⟨o, its, n, h1, h2, h3⟩ := h
    exact .kTuple h1 h2
/-- all objects but the one at d are kept -/
def Sx (d : Addr) (H H' : Hp) : Prop := ∀ a o, a ≠ d → H a = some o → H' a = some o
theorem Sx.refl {d : Addr} {H : Hp} : Sx d H H := fun _ _ _ e => e
theorem Sx.trans {d : Addr} {H H' H2 : Hp} (h : Sx d H H') (k : Sx d H' H2) : Sx d H H2 := fun a o n e => k a o n (h a o n e)
theorem Sx.of {d : Addr} {H H' : Hp} (h : Same H H') : Sx d H H' := fun a o _ e => h a o e
theorem Sx.upd {d : Addr} {H : Hp} {o : HO} : Sx d H (upd H d o) := fun a u n e => by rw [upd_ne n]; exact e
theorem sqtX {d : Addr} {H H' : Hp} {ys : List V} (e : Sx d H H') (hd : H d = some (.lst ys)) (h : SqT K H p xs) : SqT K H' p xs := by
  rcases h with (h | ⟨o, h⟩) | h
  · exact .inl (.inl (e _ _ (fun z => by rw [z, hd] at h; cases h) h))
  · exact .inl (.inr ⟨o, e _ _ (fun z => by rw [z, hd] at h; cases h) h⟩)
  · exact .inr h
end
end WP
namespace WP
theorem log2_lt {n k : Nat} (hk : 0 < k) (h : n < 2 ^ k) : n.log2 < k := by
  by_cases z : n = 0
  · subst z; exact hk
  · exact (Nat.log2_lt z).mpr h
end WP
namespace WP
open PySem PySem.Spec PyProof.Rows L2
theorem ifSS {c : Prop} [Decidable c] {a b : List Nat} {σ : L2.St} {H : Hp} {Q : VK} (q : Q (.str (SX.S (if c then a else b))) H) : if decide c = true then tC (.str (SX.S a)) σ H Q else tC (.str (SX.S b)) σ H Q := by
  by_cases h : c
  · rw [if_pos (decide_eq_true h)]; rw [if_pos h] at q; exact q
  · rw [if_neg (by rw [decide_eq_false h]; exact Bool.false_ne_true)]; rw [if_neg h] at q; exact q
end WP
namespace WP
open PySem PySem.Spec PyProof.Rows L2
section
variable {K : PySem.W.Frag} {H H' : Hp} {a d : Addr} {xs : List V}
theorem sqlX (e : Sx d H H') (n : a ≠ d) (h : SqL K H a xs) : SqL K H' a xs := by
  rcases h with (h | ⟨o, h⟩) | h
  · exact .inl (.inl (e _ _ n h))
  · exact .inl (.inr ⟨o, e _ _ n h⟩)
  · exact .inr h
end
end WP
namespace WP
open PySem PySem.Spec PyProof.Rows L2
/-- a text that may stand in data -/
def SOk (z : Str) : Prop := (PyData.str z).canLay0 = true
theorem SOk.sh {z : Str} (h : SOk z) : SeqAt.shaped (.str z) = true := Bool.and_eq_true_iff.mpr ⟨h, rfl⟩
theorem sok_S {l : List Nat} (h : ∀ c ∈ l, c < 1114112) : SOk (SX.S l) := by
  show (SX.S l).cps.all (· < 0x110000) = true
  rw [← Array.all_toList]
  exact List.all_eq_true.mpr fun c hc => decide_eq_true (h c hc)
end WP
namespace WP
open PySem PySem.Spec PyProof.Rows L2
theorem rg9 {j : Int} (h1 : 1 ≤ j) (h2 : j ≤ 1000) : RgC 0 j 9 ((j - 1) / 9 + 1).toNat := by
  have e : Builtin.Range.rangeSize 0 j 9 = (j - 1) / 9 + 1 := by
    unfold Builtin.Range.rangeSize
    rw [if_pos (by decide), if_pos (by omega), show j - 0 - 1 = j - 1 by omega]
  refine ⟨by decide, by decide, ?_, by rw [e]; omega⟩
  unfold Builtin.Range.small
  rw [e]
  simp only [Builtin.Range.rangeFitsLong, Bool.and_eq_true, Bool.or_eq_true, decide_eq_true_eq, beq_iff_eq]
  simp
  omega
end WP

namespace WP
open PySem PySem.Spec PyProof.Rows L2
open SX (S S_len S_cat)
/-! ### tuples and dicts of the module -/
structure KTp (K : PySem.W.Frag) (mg : MG) (nm : Str) (xs : List V) : Prop where
  m : mg nm = some (.ref (ca mg nm))
  s : ∀ H, SqT K H (ca mg nm) xs
theorem KTp.mk' {K : PySem.W.Frag} {mg : MG} {nm : Str} {C : Addr} {xs : List V} (h : mg nm = some (.ref C)) (x : ∀ H, SqT K H C xs) : KTp K mg nm xs := by
  have e := ca_of h
  exact ⟨by rw [e]; exact h, by rw [e]; exact x⟩
structure KDc (K : PySem.W.Frag) (w : World) (mg : MG) (nm : Str) (l : List (Str × V)) : Prop where
  m : mg nm = some (.ref (ca mg nm))
  s : ∀ p ∈ l, KDct K w (ca mg nm) p.1 p.2
theorem KDc.mk' {K : PySem.W.Frag} {w : World} {mg : MG} {nm : Str} {C : Addr} {l : List (Str × V)} (h : mg nm = some (.ref C)) (x : ∀ p ∈ l, KDct K w C p.1 p.2) : KDc K w mg nm l := by
  have e := ca_of h
  exact ⟨by rw [e]; exact h, by rw [e]; exact x⟩
theorem kdc_cons {K : PySem.W.Frag} {w : World} {C : Addr} {k : Str} {v : V} {l : List (Str × V)} (h : KDct K w C k v) (t : ∀ p ∈ l, KDct K w C p.1 p.2) : ∀ p ∈ (k, v) :: l, KDct K w C p.1 p.2 := fun p hp => by
  rcases List.mem_cons.mp hp with e | e
  · subst e; exact h
  · exact t p e
section
variable {X : Cx}
theorem pe_ktup {x : Str} {xs : List V} {pos : Pos} (hg : Gl X x) (h : KTp X.K X.mg x xs) (hd : (x == ("__debug__" : Str)) = false := by decide) : PE X (.Name x pos) (tC (.ref (ca X.mg x))) := pe_glob hg h.m rfl hd
def rUpper : V → List V → Hp → VK → Prop := fun x xs H Q => ∃ a, x = .str a ∧ xs = [] ∧ a.length ≤ 5592405 ∧ Q (.str (Txt.upper a)) H
theorem m_upper : MtR X "str.upper" rUpper := mt_upper
theorem pe_dgetD {o e f : Expr} {td ty tx : TE} {apos cpos : Pos} (hu : X.A.units + 1 < cLine) (ho : PE X o td) (he : PE X e ty) (hf : PE X f tx) (m : M2 X o "get" apos e f cpos) : PE X (.Call (.Attribute o "get" apos) [e, f] [] cpos) (tDGet2 td ty tx) :=
  pe_dget2 hu ho he hf m
end
section
variable {K : PySem.W.Frag} {w : World} {σ : L2.St} {H : Hp} {Q : VK} {l : List Nat} {i : Int} {c : Nat}
theorem ixS1 (a : atI l i = some c) (hz : l.length ≤ sizeLine) (q : Q (.str (S [c])) H) : rIxS (.str (S l)) (.int i) H Q := ⟨S l, i, c, rfl, rfl, by rw [S_len]; exact hz, a, q⟩
theorem wstr {te : TE} {R : It → Hp → Prop} (h : te σ H fun v H1 => ∃ x, v = .str x ∧ R (Its x) H1) : iStr te σ H R := h
theorem upS (h : l.all (· < 128) = true) (hl : l.length ≤ 1000) (q : Q (.str (S (l.map up1))) H) : rUpper (.str (S l)) [] H Q := ⟨_, rfl, rfl, by rw [S_len]; omega, by rw [SX.upper_S h]; exact q⟩
theorem inV_S {s : List Nat} : ∀ {ls : List (List Nat)}, inV (.str (S s)) (ls.map fun a => V.str (S a)) = decide (s ∈ ls)
  | [] => rfl
  | a :: ls => by
    show (eqV (.str (S a)) (.str (S s)) || inV (.str (S s)) (ls.map fun a => V.str (S a))) = _
    rw [inV_S]
    show ((S a == S s) || _) = _
    rw [SX.S_beq_eq]
    by_cases h : a = s
    · subst h; simp
    · rw [decide_eq_false h, Bool.false_or]
      congr 1
      exact propext ⟨fun z => List.mem_cons_of_mem _ z, fun z => by
        rcases List.mem_cons.mp z with z | z
        · exact absurd z.symm h
        · exact z⟩
theorem flat_S : ∀ (ls : List (List Nat)), (ls.map fun a => V.str (S a)).all flatV = true
  | [] => rfl
  | a :: ls => flat_S ls
/-- a text in a tuple, a list of texts -/
theorem inT (ls : List (List Nat)) {p : Addr} {xs : List V} {s : List Nat} (h : SqT K H p xs) (e : xs = ls.map fun a => V.str (S a)) (q : Q (.bl (decide (s ∈ ls))) H) : rIn K false (.str (S s)) (.ref p) H Q := by
  subst e
  exact ⟨p, _, rfl, .inr h, rfl, flat_S ls, by rw [inV_S]; exact q⟩
theorem inL (ls : List (List Nat)) {p : Addr} {xs : List V} {s : List Nat} (h : SqL K H p xs) (e : xs = ls.map fun a => V.str (S a)) (q : Q (.bl (decide (s ∈ ls))) H) : rIn K false (.str (S s)) (.ref p) H Q := by
  subst e
  exact ⟨p, _, rfl, .inl h, rfl, flat_S ls, by rw [inV_S]; exact q⟩
/-- a sign in a text -/
def rInSign : R2 := fun x y H Q => ∃ (c : Nat) (z : Str), x = .str ⟨#[c]⟩ ∧ y = .str z ∧ Q (.bl (decide (c ∈ z.cps.toList))) H
theorem op_inSign {X : Cx} : OpR X (compareOp .In) rInSign := op_in_sign
theorem inSign (q : Q (.bl (decide (c ∈ l))) H) : rInSign (.str (S [c])) (.str (S l)) H Q := ⟨c, S l, rfl, rfl, q⟩
theorem ixK {nm : Str} {mg : MG} {ls : List (Str × V)} {s : Str} {v : V} (h : KDc K w mg nm ls) (m : (s, v) ∈ ls) (q : Q v H) : rIxD K w (.ref (ca mg nm)) (.str s) H Q := ⟨_, _, _, rfl, rfl, h.s _ m, q⟩
/-- displays of one and two pairs -/
theorem disp1 {a : Str} {v : V} (q : ∀ p, H p = none → Q (.ref p) (upd (upd H p (.dK [])) p (.dK [(.inr a, v)]))) : tDisp [(tC (.str a), tC v)] σ H Q := fun p hp =>
  ⟨upd_same, [(.inr a, v)], rfl, show 1 ≤ 15 by decide, q p hp⟩
theorem disp2 {a b : Str} {v u : V} (ne : ¬ a = b) (q : ∀ p, H p = none → Q (.ref p) (upd (upd H p (.dK [])) p (.dK [(.inr a, v), (.inr b, u)]))) : tDisp [(tC (.str a), tC v), (tC (.str b), tC u)] σ H Q := fun p hp =>
  ⟨upd_same, [(.inr a, v), (.inr b, u)], rfl, show 2 ≤ 15 by decide, by
    have e : mergeK [] [((Sum.inr a : Key), v), ((Sum.inr b : Key), u)] = [((Sum.inr a : Key), v), ((Sum.inr b : Key), u)] := by
      show putK (putK ([] : List (Key × V)) (Sum.inr a) v) (Sum.inr b) u = _
      have e1 : putK ([] : List (Key × V)) (Sum.inr a) v = [((Sum.inr a : Key), v)] := rfl
      rw [e1]
      unfold putK
      rw [if_neg (by simp [ne])]
      rfl
    rw [e]; exact q p hp⟩
theorem same_disp {p : Addr} {o u : HO} (hp : H p = none) : Same H (upd (upd H p o) p u) := fun b x e => by
  rw [upd_ne (ne_of_none e hp), upd_ne (ne_of_none e hp)]; exact e
end
end WP
namespace WP
open PySem PySem.Spec PyProof.Rows L2
theorem bm0 {K : PySem.W.Frag} {σ : L2.St} {H : Hp} {Q : VK} {T : String} {r : V → List V → Hp → VK → Prop} {to : TE} (h : to σ H fun x H1 => tyV K T x H1 ∧ r x [] H1 Q) : tBM0 K T r to σ H Q := h
/-- a for over the signs of a text -/
theorem for_txt {l : List Nat} {g : TG} {tb : TS} {D : Ends} {σ : L2.St} {H : Hp} (Pv : Nat → L2.St → Hp → Prop) (h0 : Pv 0 σ H)
    (hs : ∀ i c σ H, l[i]? = some c → Pv i σ H → g (.str (SX.S [c])) σ H fun σ2 H2 => tb { D with nx := Pv (i + 1), ct := Pv (i + 1), bk := D.nx } σ2 H2) (hd : ∀ σ H, Pv l.length σ H → D.nx σ H) :
    ∃ W : Nat → Nat → L2.St → Hp → Prop, (∃ m, W 0 m σ H) ∧ ∀ i m σ H, W i m σ H →
      ((Its (SX.S l)).stop i H ∧ D.nx σ H) ∨ ((Its (SX.S l)).go i H ∧ ∃ N : L2.St → Hp → Prop, (∀ σ' H', N σ' H' → ∃ m', m' < m ∧ W (i + 1) m' σ' H') ∧ ∀ x H', (Its (SX.S l)).yld i H x H' → g x σ H' fun σ2 H2 => tb { D with nx := N, ct := N, bk := D.nx } σ2 H2) := by
  have e : (SX.S l).cps.size = l.length := by simp [SX.S]
  refine for_it walk_str Pv h0 (fun _ _ _ _ _ => True.intro) (fun i x σ H H' hi p y => ?_) fun σ H p => hd σ H (by rw [← e]; exact p)
  obtain ⟨rfl, c, hc, rfl⟩ := y
  refine hs i c σ H' ?_ p
  simpa [SX.S] using hc
end WP
namespace WP
open PySem PySem.Spec PyProof.Rows L2
theorem pe_kdict {X : Cx} {x : Str} {xs : List (Str × V)} {pos : Pos} (hg : Gl X x) (h : KDc X.K X.w X.mg x xs) (hd : (x == ("__debug__" : Str)) = false := by decide) : PE X (.Name x pos) (tC (.ref (ca X.mg x))) := pe_glob hg h.m rfl hd
end WP
namespace WP
open PySem PySem.Spec PyProof.Rows L2
theorem lc {wi : TI} {g : TG} {tt : TT} {te : TE} {vs : List Nat} {σ : L2.St} {H : Hp} {Q : VK} (h : wi σ H fun J H1 => ∀ D, H1 D = none → ∃ W : Nat → Nat → Hp → Prop, (∃ m, W 0 m (upd H1 D (.lst []))) ∧ ∀ i m H, W i m H →
    (J.stop i H ∧ Q (.ref D) H) ∨ (J.go i H ∧ ∃ Nx : Hp → Prop, (∀ H', Nx H' → ∃ m', m' < m ∧ W (i + 1) m' H') ∧ ∀ x H', J.yld i H x H' → g x (wipe σ vs) H' fun σ2 H2 => wipe σ2 vs = wipe σ vs ∧ tt σ2 H2 fun b H3 =>
      if b = true then te σ2 H3 fun y H4 => ∃ acc, H4 D = some (.lst acc) ∧ acc.length < sizeLine ∧ Nx (upd H4 D (.lst (acc ++ [y]))) else Nx H3)) : tLc wi g tt te vs σ H Q := h
theorem lc_txt {l : List Nat} {g : TG} {tt : TT} {te : TE} {vs : List Nat} {σ : L2.St} {H1 : Hp} {D : Addr} {Qd : Hp → Prop} (Pv : Nat → Hp → Prop) (h0 : Pv 0 (upd H1 D (.lst [])))
    (hs : ∀ i c H, l[i]? = some c → Pv i H → g (.str (SX.S [c])) (wipe σ vs) H fun σ2 H2 => wipe σ2 vs = wipe σ vs ∧ tt σ2 H2 fun b H3 =>
      if b = true then te σ2 H3 fun y H4 => ∃ acc, H4 D = some (.lst acc) ∧ acc.length < sizeLine ∧ Pv (i + 1) (upd H4 D (.lst (acc ++ [y]))) else Pv (i + 1) H3) (hd : ∀ H, Pv l.length H → Qd H) :
    ∃ W : Nat → Nat → Hp → Prop, (∃ m, W 0 m (upd H1 D (.lst []))) ∧ ∀ i m H, W i m H →
      ((Its (SX.S l)).stop i H ∧ Qd H) ∨ ((Its (SX.S l)).go i H ∧ ∃ Nx : Hp → Prop, (∀ H', Nx H' → ∃ m', m' < m ∧ W (i + 1) m' H') ∧ ∀ x H', (Its (SX.S l)).yld i H x H' → g x (wipe σ vs) H' fun σ2 H2 => wipe σ2 vs = wipe σ vs ∧ tt σ2 H2 fun b H3 =>
        if b = true then te σ2 H3 fun y H4 => ∃ acc, H4 D = some (.lst acc) ∧ acc.length < sizeLine ∧ Nx (upd H4 D (.lst (acc ++ [y]))) else Nx H3) := by
  have e : (SX.S l).cps.size = l.length := by simp [SX.S]
  refine lc_it walk_str Pv h0 (fun _ _ _ _ => True.intro) (fun i x H H' hi p y => ?_) fun H p => hd H (by rw [← e]; exact p)
  obtain ⟨rfl, c, hc, rfl⟩ := y
  refine hs i c H' ?_ p
  simpa [SX.S] using hc
theorem at_S {ls : List (List Nat)} {i : Int} (h0 : 0 ≤ i) (h1 : i < (ls.length : Int)) : ∃ a ∈ ls, atI (ls.map fun a => V.str (SX.S a)) i = some (.str (SX.S a)) := by
  obtain ⟨j, rfl⟩ : ∃ j : Nat, i = (j : Int) := ⟨i.toNat, by omega⟩
  have hj : j < ls.length := by omega
  exact ⟨ls[j], List.getElem_mem hj, atI_nat (by rw [List.getElem?_map, List.getElem?_eq_getElem hj]; rfl)⟩
end WP
namespace WP
open PySem PySem.Spec PyProof.Rows L2
theorem dget2 {td ty tx : TE} {σ : L2.St} {H : Hp} {Q : VK} (h : td σ H fun x H1 => ∃ a, x = .ref a ∧ IsD H1 a ∧ ty σ H1 fun y H2 => tx σ H2 fun z H3 => ∃ o, DGet H3 a y o ∧ Q (o.getD z) H3) : tDGet2 td ty tx σ H Q := h
theorem dget {td ty : TE} {σ : L2.St} {H : Hp} {Q : VK} (h : td σ H fun x H1 => ty σ H1 fun y H2 => ∃ a v, x = .ref a ∧ DGet H2 a y (some v) ∧ Q v H2) : tDGet td ty σ H Q := h
theorem at_I {ls : List Int} {i : Int} (h0 : 0 ≤ i) (h1 : i < (ls.length : Int)) : ∃ a, atI (ls.map V.int) i = some (.int a) := ⟨_, at_ints h0 h1⟩
theorem valV1 {a c : List Nat} {v : V} : valV [((Sum.inr (SX.S a) : Key), v)] (Sum.inr (SX.S c)) = if a = c then some v else none := by
  by_cases h : a = c
  · subst h; rw [if_pos rfl]; exact valV_pos rfl
  · rw [if_neg h]; exact (valV_neg fun e => h (SX.S_inj (Sum.inr.inj e))).trans valV_nil
theorem valV2 {a b c : List Nat} {v u : V} : valV [((Sum.inr (SX.S a) : Key), v), ((Sum.inr (SX.S b) : Key), u)] (Sum.inr (SX.S c)) = if a = c then some v else if b = c then some u else none := by
  by_cases h : a = c
  · subst h; rw [if_pos rfl]; exact valV_pos rfl
  · rw [if_neg h]; exact (valV_neg fun e => h (SX.S_inj (Sum.inr.inj e))).trans valV1
end WP
namespace WP
open PySem PySem.Spec PyProof.Rows L2
theorem andOr {σ : L2.St} {H : Hp} {Q : VK} {ta tb tc : TE} {x y z : Bool} (ha : ∀ Q : VK, Q (.bl x) H → ta σ H Q) (hb : ∀ Q : VK, Q (.bl y) H → tb σ H Q) (hc : ∀ Q : VK, Q (.bl z) H → tc σ H Q)
    (q : Q (.bl (x && (y || z))) H) : tAndV ta (tOrV tb tc) σ H Q := by
  refine WP.andV (ha _ ⟨x, rfl, ?_⟩)
  cases x with
  | false => exact q
  | true =>
    refine WP.brT rfl (WP.orV (hb _ ⟨y, rfl, ?_⟩))
    cases y with
    | true => exact q
    | false => exact WP.brF rfl (hc _ q)
end WP
namespace WP
open PySem PySem.Spec PyProof.Rows L2
def rNotInSign : R2 := fun x y H Q => ∃ (c : Nat) (z : Str), x = .str ⟨#[c]⟩ ∧ y = .str z ∧ Q (.bl (!decide (c ∈ z.cps.toList))) H
theorem op_notInSign {X : Cx} : OpR X (compareOp .NotIn) rNotInSign := op_notIn_sign
theorem notInSign {c : Nat} {l : List Nat} {H : Hp} {Q : VK} (q : Q (.bl (!decide (c ∈ l))) H) : rNotInSign (.str (SX.S [c])) (.str (SX.S l)) H Q := ⟨c, SX.S l, rfl, rfl, q⟩
end WP
namespace WP
open PySem PySem.Spec PyProof.Rows L2
theorem chain {r r' : R2} {ta tb tc : TE} {σ : L2.St} {H : Hp} {Q : VK} (h : ta σ H fun x H1 => tb σ H1 fun y H2 => r x y H2 fun z H3 => ∃ k, z = .bl k ∧ (if k = true then tc σ H3 fun w' H4 => r' y w' H4 Q else Q (.bl false) H3)) : tChain r r' ta tb tc σ H Q := h
theorem notInL {K : PySem.W.Frag} {H : Hp} {Q : VK} (ls : List (List Nat)) {p : Addr} {xs : List V} {s : List Nat} (h : SqL K H p xs) (e : xs = ls.map fun a => V.str (SX.S a)) (q : Q (.bl (!decide (s ∈ ls))) H) : rIn K true (.str (SX.S s)) (.ref p) H Q := by
  subst e
  exact ⟨p, _, rfl, .inl h, rfl, flat_S ls, by rw [inV_S]; exact q⟩
end WP
namespace WP
open PySem PySem.Spec PyProof.Rows L2
theorem yes {σ : L2.St} {H : Hp} {t : Hp → Prop} {u : Hp → Prop} (h : t H) : tYes σ H (fun b H3 => if b = true then t H3 else u H3) := by
  show (if true = true then t H else u H)
  rw [if_pos rfl]; exact h
end WP
namespace WP
open PySem PySem.Spec PyProof.Rows L2
/-- text[i:j], both from the front -/
theorem slice_both {l : List Nat} {i j : Int} (h0 : 0 ≤ i) (h1 : i ≤ j) : Txt.slice (SX.S l) (some i) (some j) = SX.S ((l.drop i.toNat).take (j - i).toNat) := by
  have hl : ((SX.S l).length : Int) = (l.length : Int) := by rw [SX.S_len]
  by_cases hj : j ≤ (l.length : Int)
  · exact beq_iff_eq.mp (PyProof.Rows.slice_closesL (x := SX.S l) h0 h1 (by omega))
  · have e2 : Txt.slice (SX.S l) (some i) (some j) = Txt.slice (SX.S l) (some i) (some (l.length : Int)) := by
      unfold Txt.slice
      rw [SX.S_len, SX.idx_hi (by omega)]
    rw [e2]
    by_cases hi : i ≤ (l.length : Int)
    · have e := beq_iff_eq.mp (PyProof.Rows.slice_closesL (x := SX.S l) (j := (l.length : Int)) h0 hi (by omega))
      refine e.trans ?_
      show SX.S ((l.drop i.toNat).take ((l.length : Int) - i).toNat) = _
      rw [List.take_of_length_le (by rw [List.length_drop]; omega), List.take_of_length_le (by rw [List.length_drop]; omega)]
    · have e3 : Txt.slice (SX.S l) (some i) (some (l.length : Int)) = SX.S [] := by
        have hb := PyProof.Rows.slice_beyond (x := SX.S l) (i := i) (by omega)
        have hf := SX.slice_from (a := l) h0
        have e4 : Txt.slice (SX.S l) (some i) (some (l.length : Int)) = Txt.slice (SX.S l) (some i) none := by
          unfold Txt.slice
          rw [SX.S_len]
          have a1 : ¬ ((l.length : Int) < 0) := by omega
          have a2 : (1 : Int) > 0 := by decide
          simp only [Builtin.Str.strSliceIndices, a1, a2, if_false, if_true, Int.min_self, Int.max_eq_right (Int.natCast_nonneg l.length)]
        rw [e4, hf, List.drop_eq_nil_of_le (by omega)]
      rw [e3, List.drop_eq_nil_of_le (by omega), List.take_nil]
theorem slBoth {l : List Nat} {i j : Int} {H : Hp} {Q : VK} (h0 : 0 ≤ i) (h1 : i ≤ j) (h : l.length ≤ sizeLine) (q : Q (.str (SX.S ((l.drop i.toNat).take (j - i).toNat))) H) : rSlS (.str (SX.S l)) (some i) (some j) H Q := slS _ (by rw [SX.S_len]; exact h) (by rw [slice_both h0 h1]; exact q)
end WP
namespace WP
open PySem PySem.Spec PyProof.Rows L2
theorem m_lstripC {X : Cx} : MtR X "str.lstrip" (fun x xs H Q => ∃ a b, x = .str a ∧ xs = [.str b] ∧ a.length ≤ sizeLine ∧ Q (.str (Txt.lstripChars a b)) H) := mt_lstripChars
end WP
namespace WP
open PySem PySem.Spec PyProof.Rows L2
/-- in a comprehension's block: the fragment and the module named -/
theorem pe_ktupK {X : Cx} {K : PySem.W.Frag} {mg : MG} {x : Str} {xs : List V} {pos : Pos} (hg : Gl X x) (h : KTp K mg x xs) (hK : X.K = K) (hm : X.mg = mg) (hd : (x == ("__debug__" : Str)) = false := by decide) : PE X (.Name x pos) (tC (.ref (ca mg x))) := by
  subst hK hm
  exact pe_ktup hg h hd
theorem op_inK {X : Cx} {K : PySem.W.Frag} (h : X.K = K) : OpR X (compareOp .In) (rIn K false) := by subst h; exact op_in_seq
theorem op_notInK {X : Cx} {K : PySem.W.Frag} (h : X.K = K) : OpR X (compareOp .NotIn) (rIn K true) := by subst h; exact op_notIn_seq
end WP
namespace WP
open PySem PySem.Spec PyProof.Rows L2
theorem notInT {K : PySem.W.Frag} {H : Hp} {Q : VK} (ls : List (List Nat)) {p : Addr} {xs : List V} {s : List Nat} (h : SqT K H p xs) (e : xs = ls.map fun a => V.str (SX.S a)) (q : Q (.bl (!decide (s ∈ ls))) H) : rIn K true (.str (SX.S s)) (.ref p) H Q := by
  subst e
  exact ⟨p, _, rfl, .inr h, rfl, flat_S ls, by rw [inV_S]; exact q⟩
end WP

namespace WP
open PySem PySem.Spec PyProof.Rows L2 GxR
section
variable {X : Cx} {pins : List (Addr × Obj)} {σ : L2.St} {H : Hp} {s : Shared}
/-- the generator expression's scope in the def's scope sc -/
structure GenSc (sc scope : Scope) (x : Str) : Prop where
  kind : scope.kind = .function
  co : scope.isCoroutine = false
  cell : ∀ y ∈ scope.names, y.2 ≠ .cell
  dot : scope.names.lookup (".0" : Str) = some NameKind.local
  loc : scope.names.lookup x = some .local
  free : ∀ y ∈ scope.names, y.2 = .free → sc.names.lookup y.1 = some .cell ∨ sc.names.lookup y.1 = some .free
def gscB (sc scope : Scope) (x : Str) : Bool :=
  decide (scope.kind = .function) && !scope.isCoroutine && scope.names.all (fun y => !decide (y.2 = .cell)) && decide (scope.names.lookup (".0" : Str) = some NameKind.local) && decide (scope.names.lookup x = some .local) &&
    scope.names.all (fun y => !decide (y.2 = .free) || decide (sc.names.lookup y.1 = some .cell ∨ sc.names.lookup y.1 = some .free))
theorem gsc_by {sc scope : Scope} {x : Str} (h : gscB sc scope x = true) : GenSc sc scope x := by
  unfold gscB at h
  simp only [Bool.and_eq_true, Bool.not_eq_true', decide_eq_true_eq, List.all_eq_true, Bool.or_eq_true, decide_eq_false_iff_not] at h
  obtain ⟨⟨⟨⟨⟨h1, h2⟩, h3⟩, h4⟩, h5⟩, h6⟩ := h
  exact ⟨h1, h2, h3, h4, h5, fun y hy e => (h6 y hy).elim (fun z => absurd e z) id⟩
/-- what the walked thing xv gives in the state s1: n items, the i-th one as Pf tells -/
def ItOk (X : Cx) (P : Addr) (s1 : Shared) (xv : Value) (n : Nat) (Pf : Nat → Value → Prop) : Prop :=
  ∃ fpx : List Addr, (∀ b ∈ fpx, b < s1.heap.objs.size ∧ b ≠ P) ∧ ∀ (Q : Value → Shared → Prop),
    (∀ (o : Obj) (St : Nat → Heap → Prop), (∀ A' : Around, A'.handled = none → Walks X.prog X.w A' s1.heap.objs.size (s1.heap.objs.size :: fpx) [s1.heap.objs.size] n Pf St) → St 0 (s1.heap.push o) →
      Q (.ref s1.heap.objs.size) { s1 with heap := s1.heap.push o }) → wpAny (model X.prog X.w) X.A (pyIter xv) Q X.xe s1
theorem itOk_str {P : Addr} {s1 : Shared} {a : Str} {t : Tok} : ItOk X P s1 (.str a t) a.cps.size (SignAt a) :=
  ⟨[], (fun b hb => by cases hb), fun Q h => wpAny_pyIter_str fun o St W hst => h o St W hst⟩
theorem itOk_list {P : Addr} {s1 : Shared} {q : Addr} {its : Array Value} (hl : s1.heap.IsList q its) (hP : q ≠ P) : ItOk X P s1 (.ref q) its.size (fun i v => its[i]? = some v) := by
  obtain ⟨ol, hol, _⟩ := _root_.id hl
  have hlt := Heap.lt_size hol
  refine ⟨[q], fun b hb => ?_, fun Q h => wpAny_pyIter_list hl (h _ _ (fun A' hA => Walks.list hA _ q (Nat.ne_of_lt hlt) its) ⟨⟨_, Heap.get?_push_size _ rfl, rfl, rfl⟩, hl.push _⟩)⟩
  rcases List.mem_cons.mp hb with z | z
  · rw [z]; exact ⟨hlt, hP⟩
  · cases z
/-- the element in the generator's own frame -/
def EltG (X : Cx) (P : Addr) (scope : Scope) (x : Str) (elt : Expr) (s1 : Shared) (Pf : Nat → Value → Prop) (pb : Nat → Bool) : Prop :=
  ∀ (cenv : Env) (A' : Around) (E' : Value → Shared → Prop) (i : Nat) (v : Value) (s₂ : Shared) (m₂ : Str → Option Value), cenv.scope = scope → cenv.globals = X.env.globals → cenv.cells = cloFrom X.env.cells scope.names [] → A'.handled = none → Pf i v →
    s₂.heap.Ns cenv.locals m₂ → m₂ x = some v → (∀ b u, b ≠ P → s1.heap.get? b = some u → s₂.heap.get? b = some u) →
    wpAny (model X.prog X.w) A' (eval elt cenv) (fun y s₃ => y = .bool (pb i) ∧ Keeps s₂ s₃) E' s₂
def ReadyN (X : Cx) (pins : List (Addr × Obj)) (σ : L2.St) (H1 : Hp) (P : Addr) (n : Nat) (pb : Nat → Bool) (g : Addr) (s5 : Shared) : Prop :=
  ∃ (fp wr : List Addr) (G : Array GenState → Array GenState → Prop) (F : Nat → Value → Prop) (St : Nat → Shared → Prop),
    WalksS X.prog X.w X.A.in1 g fp wr G n F St ∧ St 0 s5 ∧ TruthOf X.prog X.w X.A.in1 F pb ∧ ∀ s', Moved wr G s5 s' → ∃ H2, Tabbed P H1 H2 ∧ Inv X pins σ H2 s'
theorem gen_go {c P : Addr} {elt iter : Expr} {x : Str} {px gpos : Pos} {scope : Scope} {te : TE} {k : Nat} {Q' : Value → Shared → Prop} {R : V → Hp → Prop}
    (hr : Room k X.A) (TB : TabB X.base X.mg c P) (hcode : X.env.code = .ref c) (S : GenSc X.env.scope scope x) (hi : PE X iter te)
    (hs : ∀ v, genFold iter X.env v = pure v) (I : Inv X pins σ H s) (h : te σ H fun v H1 => TabG H1 P ∧ R v H1)
    (hw : ∀ v xv H1 s1, TabG H1 P → R v H1 → RelV v xv → Inv X pins σ H1 s1 → ∃ n Pf pb, ItOk X P s1 xv n Pf ∧ EltG X P scope x elt s1 Pf pb ∧ ∀ g s5, ReadyN X pins σ H1 P n pb g s5 → Q' (.ref g) s5) :
    wpAny (model X.prog X.w) X.A (eval (.GeneratorExp elt [⟨.Name x px, iter, [], 0⟩] scope gpos) X.env) Q' X.xe s := by
  refine wpAny_GeneratorExp_walksQ hr.hd S.co (closure_ok fun y hy e => I.ok.has y.1 (S.free y hy e)) S.cell S.dot S.loc S.kind (by have := hr.dp; omega) ?_ hs
  refine thn (hi.run pins s σ H _ I h) fun xv s1 ⟨v, H1, I1, r1, ⟨ps, hP, ht⟩, q1⟩ => ?_
  obtain ⟨n, Pf, pb, ⟨fpx, hfpx, hIt⟩, hel, hQ⟩ := hw v xv H1 s1 ⟨ps, hP, ht⟩ q1 r1 I1
  refine hIt _ fun o St W hst => ?_
  have hPs : s1.heap.get? P = some { cls := .none, data := .fields ps } := I1.hok P _ hP
  have hPlt : P < s1.heap.objs.size := Heap.lt_size hPs
  have hP2 : (s1.heap.push o).get? P = some { cls := .none, data := .fields ps } := Heap.get?_push_of_some _ hPs
  have cd : PySem.W.CodeHd (s1.heap.push o) c P := TB.code.keeps fun b u e => Heap.get?_push_of_some _ (I1.bk b u e)
  have lim2 : (s1.heap.push o).NoLimit := I1.nolimit.push o
  have cont : ∀ (code : Value) (h3 : Heap) (tk : Nat) (ps' : Array Value), Heap.ExtBut P (s1.heap.push o) h3 → (s1.heap.push o).objs.size ≤ h3.objs.size → h3.get? P = some { cls := .none, data := .fields ps' } → (∃ more, ps' = ps ++ more) → TriplesOk ps'.toList →
      wpAny (model X.prog X.w) X.A (builtinsFor X.env.globals X.env.builtins) (fun bi s₄ =>
        ∃ Ia fp wr n₀ Pf St₀ pz F, Value.ref s1.heap.objs.size = .ref Ia ∧ (∀ A' : Around, A'.handled = none → Walks X.prog X.w A' Ia fp wr n₀ Pf St₀) ∧ St₀ 0 s₄.heap ∧ (∀ b ∈ fp, b < s₄.heap.objs.size) ∧ s₄.heap.NoLimit ∧ cStatics ∉ wr ∧
          (∀ href : Heap, (∀ b o, s₄.heap.get? b = some o → href.get? b = some o) →
            QuietGen X.prog X.w (genEnv scope (cloFrom X.env.cells scope.names []) s₄.heap.objs.size code bi X.env) x [] elt (List.range s₄.heap.objs.size) wr Pf pz F href) ∧
          (∀ a h₅ tk gs, gs.bare = true → s₄.heap.objs.size < a → h₅.objs.size = a + 1 → (∀ b o, s₄.heap.get? b = some o → h₅.get? b = some o) →
            WalksS X.prog X.w X.A.in4 a (a :: s₄.heap.objs.size :: List.range s₄.heap.objs.size) (s₄.heap.objs.size :: wr) (GenOnlyQ s₄.gens.size) (passing pz n₀ 0).length
              (fun j y => ∃ i, (passing pz n₀ 0)[j]? = some i ∧ F i y) (GenAt X.prog X.w X.A.in4 a s₄.gens.size s₄.heap.objs.size (List.range s₄.heap.objs.size) wr pz n₀ F) →
            GenAt X.prog X.w X.A.in4 a s₄.gens.size s₄.heap.objs.size (List.range s₄.heap.objs.size) wr pz n₀ F 0 { s₄ with gens := s₄.gens.push gs, toks := tk, heap := h₅ } →
            Q' (.ref a) { s₄ with gens := s₄.gens.push gs, toks := tk, heap := h₅ })) X.xe { s1 with heap := h3, toks := tk } := by
    intro code h3 tk ps' hx hsz hP3 hmore ht3
    obtain ⟨bm, ob, e1, e2, e3, e4, e5, e6, e7, e8⟩ := TB.bm
    have hcP : cStatics ≠ P := fun e => by
      obtain ⟨_, hns, _⟩ := I1.nolimit
      obtain ⟨o', es, ep, ho, hd, _⟩ := hns
      rw [e, hPs] at ho
      cases ho
      cases hd
    have hcl : cStatics < s1.heap.objs.size := let ⟨_, hns, _⟩ := I1.nolimit; hns.lt
    have sz2 : (s1.heap.push o).objs.size = s1.heap.objs.size + 1 := Heap.size_push ..
    have le3 : s1.heap.objs.size ≤ h3.objs.size := Nat.le_trans (Nat.le_succ _) (by have e := sz2; rw [e] at hsz; exact hsz)
    have keep3 : ∀ b u, b ≠ P → s1.heap.get? b = some u → h3.get? b = some u := fun b u hb e => hx b u hb (Heap.get?_push_of_some _ e)
    refine wpAny_builtinsFor (m := X.mg) (by rw [I1.ok.glob]; exact ((I1.mod.glob.keeps I1.bk).push o).extBut hx TB.gP) e1 e2 (keep3 _ _ e4 (I1.bk _ _ e5)) e6 e7 e8 ?_
    refine ⟨s1.heap.objs.size, s1.heap.objs.size :: fpx, [s1.heap.objs.size], n, Pf, St, (fun _ => true), (fun i y => y = .bool (pb i)), rfl, W, ?_, ?_, lim2.extBut hx hcP, ?_, ?_, ?_⟩
    · refine (W X.A hr.hd).frame _ _ _ hst fun b hb u e => hx b u (fun z => ?_) e
      rcases List.mem_cons.mp hb with z2 | z2
      · exact Nat.ne_of_lt hPlt (z.symm.trans z2)
      · exact (hfpx b z2).2 z
    · intro b hb
      rcases List.mem_cons.mp hb with z | z
      · rw [z]
        show s1.heap.objs.size < h3.objs.size
        omega
      · exact Nat.lt_of_lt_of_le (hfpx b z).1 le3
    · intro z
      rcases List.mem_cons.mp z with z | z
      · exact Nat.ne_of_lt hcl z
      · cases z
    · intro href hhref
      refine ⟨fun A' E' i v s₂ m₂ hA hPv hn hm hk => ?_, fun A' E' i v s₂ m₂ hA hPv hp hn hm hk => ?_⟩
      · simp only [List.forIn_nil]
        exact wpAny_pure ⟨rfl, keeps_refl _⟩
      · refine hel _ A' E' i v s₂ m₂ rfl rfl rfl hA hPv hn hm fun b u hb e => ?_
        have hlt := Heap.lt_size e
        refine hk b (List.mem_range.mpr ?_) (fun z => ?_) u (hhref b u (keep3 b u hb e))
        · exact Nat.lt_of_lt_of_le hlt le3
        · rcases List.mem_cons.mp z with z | z
          · exact Nat.ne_of_lt hlt z
          · cases z
    · intro g h5 tk5 gs hgb hag hsz5 hk5 W5 hat
      simp only [GxR.passing_true, List.length_range] at W5
      refine hQ g _ ⟨_, _, _, _, _, W5.in4_1, hat, ?_, fun s' hm => ?_⟩
      · intro j y sj Qj Ej hy hQj
        obtain ⟨i, hij, rfl⟩ := hy
        obtain ⟨hj, ej⟩ := List.getElem?_eq_some_iff.mp hij
        rw [List.getElem_range] at ej
        subst ej
        exact wpAny_truthy_bool hQj
      · obtain ⟨more, em⟩ := hmore
        have nwr : ∀ b u, s1.heap.get? b = some u → b ∉ h3.objs.size :: [s1.heap.objs.size] := fun b u e hb => by
          have hl := Heap.lt_size e
          rcases List.mem_cons.mp hb with z | z
          · rw [z] at hl
            have h9 : (h3.objs.size : Nat) < s1.heap.objs.size := hl
            omega
          · rcases List.mem_cons.mp z with z | z
            · rw [z] at hl
              exact Nat.lt_irrefl _ hl
            · cases z
        have J := inv_tab (more := more) (h' := s'.heap) (g' := s'.gens) (d' := s'.drawn) (t' := s'.toks) I1 hP (fun b u hb e => hm.heap b u (nwr b u e) (hk5 b u (keep3 b u hb e)))
          (by rw [← em]; exact hm.heap P _ (nwr P _ hPs) (hk5 P _ hP3)) (AllBare.movedS (I1.bare.push hgb) hm)
        rw [sh_eta s1 s' hm.os] at J
        refine ⟨upd H1 P (.tbl (ps ++ more)), ⟨⟨ps ++ more, upd_same, by rw [← em]; exact ht3⟩, fun b hb => upd_ne hb⟩, J⟩
  refine ⟨lim2, ?_⟩
  cases hf : codeAmong gpos ps.toList with
  | none =>
    refine wpAny_genexprCodeX hcode (cd.code hP2 ht) (cd.tab hP2) hf fun c' h' tk hx hge hlt hco' _ htab' _ => ?_
    obtain ⟨o1, vs, f1, tf, fl, tg, inF, tx, tt, op, _, _, _, _, _, _, _, _, _, htr, _⟩ := hco'
    exact cont _ h' tk _ hx (Nat.le_trans hge (Nat.le_of_lt hlt)) htab'.2 ⟨_, rfl⟩ htr
  | some cv =>
    refine wpAny_genexprCode_hit hcode (cd.code hP2 ht) hf ?_
    exact cont cv (s1.heap.push o) s1.toks ps (Heap.ExtBut.refl _ _) (Nat.le_refl _) hP2 ⟨#[], by simp⟩ ht
/-- cells of the def, seen from the generator -/
theorem clo_look {cells : List (Str × Addr)} {names : List (Str × NameKind)} {y : Str} {c : Addr} (hf : (y, NameKind.free) ∈ names) (hc : cells.lookup y = some c) : (cloFrom cells names []).lookup y = some c := by
  have h := cloFrom_has (cells := cells) (acc := []) hf
  obtain ⟨c', hc'⟩ := L2.mem_lookup h
  rw [hc']
  rcases cloFrom_mem (PySem.mem_of_lookup hc') with z | ⟨_, z⟩
  · cases z
  · rw [z, hc]; rfl
def trI (pb : Int → Bool) (l : List Int) (j : Nat) : Bool := match l[j]? with
  | some b => pb b
  | none => false
theorem trI_some {pb : Int → Bool} {l : List Int} {j : Nat} {b : Int} (h : l[j]? = some b) : trI pb l j = pb b := by
  unfold trI
  rw [h]
theorem all_trI (l : List Int) (pb : Int → Bool) : (List.range l.length).all (trI pb l) = l.all pb := by
  rw [Bool.eq_iff_iff, List.all_eq_true, List.all_eq_true]
  constructor
  · intro h b hb
    obtain ⟨j, hj, e⟩ := List.getElem_of_mem hb
    have q := h j (List.mem_range.mpr hj)
    rw [trI_some (List.getElem?_eq_getElem hj), e] at q
    exact q
  · intro h j hj
    have hj' := List.mem_range.mp hj
    rw [trI_some (List.getElem?_eq_getElem hj')]
    exact h _ (List.getElem_mem hj')
/-- x in y, y a captured text -/
theorem elt_in {P : Addr} {scope : Scope} {x y : Str} {p1 p2 p3 : Pos} {H1 : Hp} {s1 : Shared} {a z : Str} {i : Nat} (I1 : Inv X pins σ H1 s1) (hP : ∃ ps : Array Value, H1 P = some (.tbl ps))
    (hN : X.N[i]? = some y) (hv : σ[i]? = some (some (.str z))) (hk : X.env.scope.names.lookup y = some .cell) (hfr : (y, NameKind.free) ∈ scope.names) (hl : scope.names.lookup x = some .local) (hy : scope.names.lookup y = some .free) (hkd : scope.kind = .function)
    (hd : (x == ("__debug__" : Str)) = false := by decide) (hd2 : (y == ("__debug__" : Str)) = false := by decide) (hcd : (y == ("__classdict__" : Str)) = false := by decide) (hm : behindInMarks .In (.Name y p2) = false := by with_unfolding_all rfl) :
    EltG X P scope x (.Compare (.Name x p1) [.In] [.Name y p2] p3) s1 (SignAt a) (trF (fun c => decide (c ∈ z.cps.toList)) a.cps.toList) := by
  intro cenv A' E' j v s₂ m₂ e1 e2 e3 hA hPf hn hmx hkp
  obtain ⟨c, t, hc, rfl⟩ := hPf
  obtain ⟨m, hns, hloc⟩ := I1.loc
  obtain ⟨u, ru, lk⟩ := hloc i y _ hN hv (.inr (.inl hk))
  obtain ⟨t', rfl⟩ := _root_.id ru
  have hkk : X.env.kindOf y = some .cell := hk
  rcases lk with ⟨hk', _⟩ | ⟨_, cl, hcl, ⟨oc, hoc, hcd2⟩⟩
  · rw [hkk] at hk'; cases hk'
  have hcP : cl ≠ P := fun e => by
    obtain ⟨ps, hps⟩ := hP
    have q := I1.hok P _ hps
    have q' : s1.heap.get? P = some { cls := .none, data := .fields ps } := q
    rw [e, q'] at hoc
    cases hoc
    cases hcd2
  have ec : cenv.cells.lookup y = some cl := by rw [e3]; exact clo_look hfr hcl
  have hcell : s₂.heap.IsCell cl (some (.str z t')) := ⟨oc, hkp cl oc hcP hoc, hcd2⟩
  refine wpAny_Compare1 ?_ hm
  refine wpAny_Name (wpAny_loadName_local (by rw [e1]; exact hkd) (show cenv.scope.names.lookup x = some .local by rw [e1]; exact hl) hn hmx ?_) hd
  refine wpAny_Name (wpAny_loadName_free (by rw [e1]; exact hkd) (show cenv.scope.names.lookup y = some .free by rw [e1]; exact hy) ec hcell ?_ hcd) hd2
  refine PyProof.Rows.in_str ⟨?_, keeps_refl _⟩
  rw [trF_some (by rw [Array.getElem?_toList]; exact hc)]
  exact congrArg Value.bool (PySem.StrLaws.found_one z c)
/-- lo <= x <= hi and x != no, the three names of the module -/
theorem elt_rng {P : Addr} {scope : Scope} {x lo hi no : Str} {p1 p2 p3 p4 p5 p6 p7 p8 : Pos} {H1 : Hp} {s1 : Shared} {its : Array Value} {ns : List Int} {l h n : Int} {t1 t2 t3 : Tok} (I1 : Inv X pins σ H1 s1) (hP : ∃ ps : Array Value, H1 P = some (.tbl ps))
    (g1 : X.mg lo = some (.int l t1)) (g2 : X.mg hi = some (.int h t2)) (g3 : X.mg no = some (.int n t3)) (hv : Vals (ns.map V.int) its.toList)
    (hl : scope.names.lookup x = some .local) (k1 : scope.names.lookup lo = some .globalImplicit) (k2 : scope.names.lookup hi = some .globalImplicit) (k3 : scope.names.lookup no = some .globalImplicit) (hkd : scope.kind = .function)
    (d0 : (x == ("__debug__" : Str)) = false := by decide) (d1 : (lo == ("__debug__" : Str)) = false := by decide) (d2 : (hi == ("__debug__" : Str)) = false := by decide) (d3 : (no == ("__debug__" : Str)) = false := by decide) :
    EltG X P scope x (.BoolOp .And [.Compare (.Name lo p1) [.LtE, .LtE] [.Name x p2, .Name hi p3] p4, .Compare (.Name x p5) [.NotEq] [.Name no p6] p7] p8) s1 (fun i v => its[i]? = some v)
      (trI (fun c => decide (l ≤ c ∧ c ≤ h ∧ c ≠ n)) ns) := by
  intro cenv A' E' j v s₂ m₂ e1 e2 e3 hA hPf hn hmx hkp
  have hj : ∃ (c : Int) (tc : Tok), ns[j]? = some c ∧ v = .int c tc := by
    have hlen := hv.length
    obtain ⟨hjl, _⟩ := Array.getElem?_eq_some_iff.mp hPf
    have hj2 : j < ns.length := by simp only [List.length_map, Array.length_toList] at hlen; exact Nat.lt_of_lt_of_eq hjl hlen.symm
    obtain ⟨u, hu, ru⟩ := hv.get (i := j) (x := .int ns[j]) (by rw [List.getElem?_map, List.getElem?_eq_getElem hj2]; rfl)
    rw [Array.getElem?_toList, hPf] at hu
    cases hu
    obtain ⟨tc, rfl⟩ := ru
    exact ⟨_, tc, List.getElem?_eq_getElem hj2, rfl⟩
  obtain ⟨c, tc, hc, rfl⟩ := hj
  have kd : cenv.scope.kind = .function := by rw [e1]; exact hkd
  have gns : s₂.heap.Ns cenv.globals X.mg := by
    rw [e2, I1.ok.glob]
    obtain ⟨o, es, ep, ho, hd, r⟩ := I1.mod.glob.keeps I1.bk
    refine ⟨o, es, ep, hkp _ _ (fun e => ?_) ho, hd, r⟩
    obtain ⟨ps, hps⟩ := hP
    have q' : s1.heap.get? P = some { cls := .none, data := .fields ps } := I1.hok P _ hps
    rw [e, q'] at ho
    cases ho
    cases hd
  have ldx : ∀ {Q : Value → Shared → Prop} {pp : Pos}, Q (.int c tc) s₂ → wpAny (model X.prog X.w) A' (eval (.Name x pp) cenv) Q E' s₂ := fun q =>
    wpAny_Name (wpAny_loadName_local kd (show cenv.scope.names.lookup x = some .local by rw [e1]; exact hl) hn hmx q) d0
  have ldg : ∀ {y : Str} {val : Value} {Q : Value → Shared → Prop} {pp : Pos}, X.mg y = some val → scope.names.lookup y = some .globalImplicit → (y == ("__debug__" : Str)) = false → Q val s₂ → wpAny (model X.prog X.w) A' (eval (.Name y pp) cenv) Q E' s₂ := fun g k d q =>
    Calls.Name_function_global kd (show cenv.scope.names.lookup _ = some .globalImplicit by rw [e1]; exact k) (Calls.loadGlobal_global gns g q) d
  rw [trI_some hc]
  refine wpAny_And2 ?_
  refine Compare_chain (ldg g1 k1 d1 (chain_link (ldx (le_int ?_))))
  refine wpAny_truthy_bool ?_
  by_cases h1 : l ≤ c
  · rw [decide_eq_true h1]
    refine ite_tt (chain_last (ldg g2 k2 d2 (le_int ?_)))
    refine wpAny_truthy_bool ?_
    by_cases h2 : c ≤ h
    · rw [decide_eq_true h2]
      refine ite_tt (wpAny_Compare1 (ldx (ldg g3 k3 d3 (ne_int ?_))))
      refine ⟨?_, keeps_refl _⟩
      by_cases h3 : c = n
      · simp [h3]
      · simp [h1, h2, h3]
    · rw [decide_eq_false h2]
      exact ite_ff ⟨by simp [h2], keeps_refl _⟩
  · rw [decide_eq_false h1]
    refine ite_ff ?_
    refine wpAny_truthy_bool (ite_ff ⟨by simp [h1], keeps_refl _⟩)
/-- all(.. for x in e): the walked thing of the kind R, the answer b -/
theorem all_go {c P : Addr} {elt iter : Expr} {x : Str} {px p pos gpos : Pos} {scope : Scope} {te : TE} {Wf : V → Hp → L2.St → VK → Prop} {k : Nat}
    (hr : Room k X.A) (hg : Gl X "all") (hm : X.mg "all" = none) (hb : bootBuiltins "all" = some (.builtin "all")) (TB : TabB X.base X.mg c P) (hcode : X.env.code = .ref c) (S : GenSc X.env.scope scope x) (hi : PE X iter te)
    (hs : ∀ v, genFold iter X.env v = pure v)
    (he : starEach [.GeneratorExp elt [⟨.Name x px, iter, [], 0⟩] scope gpos] X.env = (false, eval (.GeneratorExp elt [⟨.Name x px, iter, [], 0⟩] scope gpos) X.env) :: starEach [] X.env)
    (hw : ∀ pins (σ : L2.St) (v : V) (xv : Value) (H1 : Hp) (s1 : Shared) (Q : VK), TabG H1 P → Wf v H1 σ Q → RelV v xv → Inv X pins σ H1 s1 → ∃ n Pf pb, ItOk X P s1 xv n Pf ∧ EltG X P scope x elt s1 Pf pb ∧ ∀ H2, Tabbed P H1 H2 → Q (.bl ((List.range n).all pb)) H2) :
    PE X (.Call (.Name "all" p) [.GeneratorExp elt [⟨.Name x px, iter, [], 0⟩] scope gpos] [] pos) (fun σ H Q => te σ H fun v H1 => TabG H1 P ∧ Wf v H1 σ Q) := by
  refine ⟨fun pins s σ H Q I h => ?_⟩
  refine wpAny_Call_Name_kw (ld_blt I hg hm hb ?_)
  refine PyProof.Rows.callWith_builtin1 ?_ he (by rfl)
  rw [he]
  show wpAny _ _ (spliced ((false, eval (.GeneratorExp elt [⟨.Name x px, iter, [], 0⟩] scope gpos) X.env) :: backTo pos (starEach [] X.env))) _ _ s
  refine Calls.spliced_cons (gen_go (R := fun v H1 => Wf v H1 σ Q) hr TB hcode S hi hs I h fun v xv H1 s1 hT q1 r1 I1 => ?_)
  obtain ⟨n, Pf, pb, h1, h2, h3⟩ := hw pins σ v xv H1 s1 Q hT q1 r1 I1
  refine ⟨n, Pf, pb, h1, h2, fun g s5 hG => ?_⟩
  obtain ⟨fp, wr, G, F, St, W, hst, htr, hI⟩ := hG
  refine Calls.spliced_nil ?_
  refine call_all_walkS (W.self 0 _ _ _ hst ⟨g, fp, wr, G, _, F, St, _, rfl, W, hst, htr, fun s' hmv => ?_⟩)
  obtain ⟨H2, hT, J⟩ := hI s' hmv
  exact ⟨.bl _, H2, J, rfl, h3 H2 hT⟩
/-- all(x in y for x in e), e and y texts; y the def's i-th name -/
def tAllC (P : Addr) (i : Nat) (te : TE) : TE := fun σ H Q => te σ H fun v H1 => TabG H1 P ∧ ∃ a z : Str, v = .str a ∧ σ[i]? = some (some (.str z)) ∧ ∀ H2, Tabbed P H1 H2 → Q (.bl (a.cps.toList.all fun c => decide (c ∈ z.cps.toList))) H2
theorem pe_allC {c P : Addr} {iter : Expr} {x y : Str} {px p pos gpos p1 p2 p3 : Pos} {scope : Scope} {te : TE} {k i : Nat}
    (hr : Room k X.A) (hg : Gl X "all") (hm : X.mg "all" = none) (hb : bootBuiltins "all" = some (.builtin "all")) (TB : TabB X.base X.mg c P) (hcode : X.env.code = .ref c) (S : GenSc X.env.scope scope x) (hi : PE X iter te)
    (hN : X.N[i]? = some y) (hk : X.env.scope.names.lookup y = some .cell) (hfr : (y, NameKind.free) ∈ scope.names) (hy : scope.names.lookup y = some .free)
    (hs : ∀ v, genFold iter X.env v = pure v)
    (he : starEach [.GeneratorExp (.Compare (.Name x p1) [.In] [.Name y p2] p3) [⟨.Name x px, iter, [], 0⟩] scope gpos] X.env = (false, eval (.GeneratorExp (.Compare (.Name x p1) [.In] [.Name y p2] p3) [⟨.Name x px, iter, [], 0⟩] scope gpos) X.env) :: starEach [] X.env := by rfl)
    (hd : (x == ("__debug__" : Str)) = false := by decide) (hd2 : (y == ("__debug__" : Str)) = false := by decide) (hcd : (y == ("__classdict__" : Str)) = false := by decide) (hmk : behindInMarks .In (Expr.Name y p2) = false := by with_unfolding_all rfl) :
    PE X (.Call (.Name "all" p) [.GeneratorExp (.Compare (.Name x p1) [.In] [.Name y p2] p3) [⟨.Name x px, iter, [], 0⟩] scope gpos] [] pos) (tAllC P i te) := by
  refine all_go (Wf := fun v H1 σ Q => ∃ a z : Str, v = .str a ∧ σ[i]? = some (some (.str z)) ∧ ∀ H2, Tabbed P H1 H2 → Q (.bl (a.cps.toList.all fun c => decide (c ∈ z.cps.toList))) H2) hr hg hm hb TB hcode S hi hs he fun pins σ v xv H1 s1 Q hT h r1 I1 => ?_
  obtain ⟨a, z, rfl, hv, hQ⟩ := h
  obtain ⟨t, rfl⟩ := _root_.id r1
  obtain ⟨ps, hP, _⟩ := hT
  refine ⟨_, _, _, itOk_str, elt_in I1 ⟨ps, hP⟩ hN hv hk hfr S.loc hy S.kind hd hd2 hcd hmk, fun H2 h2 => ?_⟩
  rw [all_signs]
  exact hQ H2 h2
/-- all(lo <= x <= hi and x != no for x in e), e a list of ints -/
def tAllR (K : PySem.W.Frag) (P : Addr) (l h n : Int) (te : TE) : TE := fun σ H Q => te σ H fun v H1 => TabG H1 P ∧ ∃ (q : Addr) (ns : List Int), v = .ref q ∧ SqL K H1 q (ns.map V.int) ∧ ∀ H2, Tabbed P H1 H2 → Q (.bl (ns.all fun c => decide (l ≤ c ∧ c ≤ h ∧ c ≠ n))) H2
theorem pe_allR {c P : Addr} {iter : Expr} {x lo hi no : Str} {px p pos gpos p1 p2 p3 p4 p5 p6 p7 p8 : Pos} {scope : Scope} {te : TE} {k : Nat} {l h n : Int}
    (hr : Room k X.A) (hg : Gl X "all") (hm : X.mg "all" = none) (hb : bootBuiltins "all" = some (.builtin "all")) (TB : TabB X.base X.mg c P) (hcode : X.env.code = .ref c) (S : GenSc X.env.scope scope x) (hi' : PE X iter te)
    (g1 : ∃ u, X.mg lo = some u ∧ RelV (.int l) u) (g2 : ∃ u, X.mg hi = some u ∧ RelV (.int h) u) (g3 : ∃ u, X.mg no = some u ∧ RelV (.int n) u)
    (k1 : scope.names.lookup lo = some .globalImplicit) (k2 : scope.names.lookup hi = some .globalImplicit) (k3 : scope.names.lookup no = some .globalImplicit)
    (hs : ∀ v, genFold iter X.env v = pure v)
    (he : starEach [.GeneratorExp (.BoolOp .And [.Compare (.Name lo p1) [.LtE, .LtE] [.Name x p2, .Name hi p3] p4, .Compare (.Name x p5) [.NotEq] [.Name no p6] p7] p8) [⟨.Name x px, iter, [], 0⟩] scope gpos] X.env = (false, eval (.GeneratorExp (.BoolOp .And [.Compare (.Name lo p1) [.LtE, .LtE] [.Name x p2, .Name hi p3] p4, .Compare (.Name x p5) [.NotEq] [.Name no p6] p7] p8) [⟨.Name x px, iter, [], 0⟩] scope gpos) X.env) :: starEach [] X.env := by rfl)
    (d0 : (x == ("__debug__" : Str)) = false := by decide) (d1 : (lo == ("__debug__" : Str)) = false := by decide) (d2 : (hi == ("__debug__" : Str)) = false := by decide) (d3 : (no == ("__debug__" : Str)) = false := by decide) :
    PE X (.Call (.Name "all" p) [.GeneratorExp (.BoolOp .And [.Compare (.Name lo p1) [.LtE, .LtE] [.Name x p2, .Name hi p3] p4, .Compare (.Name x p5) [.NotEq] [.Name no p6] p7] p8) [⟨.Name x px, iter, [], 0⟩] scope gpos] [] pos) (tAllR X.K P l h n te) := by
  obtain ⟨u1, g1, t1, rfl⟩ := g1
  obtain ⟨u2, g2, t2, rfl⟩ := g2
  obtain ⟨u3, g3, t3, rfl⟩ := g3
  refine all_go (Wf := fun v H1 σ Q => ∃ (q : Addr) (ns : List Int), v = .ref q ∧ SqL X.K H1 q (ns.map V.int) ∧ ∀ H2, Tabbed P H1 H2 → Q (.bl (ns.all fun c => decide (l ≤ c ∧ c ≤ h ∧ c ≠ n))) H2) hr hg hm hb TB hcode S hi' hs he fun pins σ v xv H1 s1 Q hT hq r1 I1 => ?_
  obtain ⟨q, ns, rfl, hq, hQ⟩ := hq
  obtain rfl : xv = Value.ref q := r1
  obtain ⟨its, rv, pl, hsz⟩ := I1.list hq
  obtain ⟨ps, hP, _⟩ := hT
  have hqP : q ≠ P := fun e => by
    have q' : s1.heap.get? P = some { cls := .none, data := .fields ps } := I1.hok P _ hP
    obtain ⟨o, nn, e1, _, _, e2⟩ := pl
    rw [e, q'] at e1
    cases e1
    cases e2
  refine ⟨_, _, _, itOk_list pl.isList hqP, elt_rng I1 ⟨ps, hP⟩ g1 g2 g3 (by simpa using rv) S.loc k1 k2 k3 S.kind d0 d1 d2 d3, fun H2 h2 => ?_⟩
  have e := rv.length
  rw [List.length_map] at e
  rw [List.size_toArray, ← e, all_trI]
  exact hQ H2 h2
end
end WP

namespace WP
open PySem PySem.Spec PyProof.Rows L2 GxR
/-- all but the tables stay, tables stay tables -/
def NT (u : HO) : Prop := ∀ ps, u ≠ .tbl ps
structure Sm (H H' : Hp) : Prop where
  k : ∀ b u, H b = some u → NT u → H' b = some u
  t : ∀ P, TabG H P → TabG H' P
theorem Sm.refl (H : Hp) : Sm H H := ⟨fun _ _ e _ => e, fun _ h => h⟩
theorem Sm.trans {H H' H2 : Hp} (a : Sm H H') (b : Sm H' H2) : Sm H H2 := ⟨fun x u e n => b.k x u (a.k x u e n) n, fun P h => b.t P (a.t P h)⟩
theorem Sm.of {H H' : Hp} (e : Same H H') : Sm H H' := ⟨fun b u h _ => e b u h, fun P ⟨ps, h, t⟩ => ⟨ps, e P _ h, t⟩⟩
theorem Sm.tab {H H' : Hp} {P : Addr} (g : TabG H P) (h : Tabbed P H H') : Sm H H' := by
  obtain ⟨ps, hP, ht⟩ := g
  refine ⟨fun b u e n => ?_, fun Q hq => ?_⟩
  · by_cases hb : b = P
    · rw [hb, hP] at e; exact absurd (Option.some.inj e).symm (n ps)
    · rw [h.2 b hb]; exact e
  · by_cases hb : Q = P
    · rw [hb]; exact h.1
    · obtain ⟨qs, h1, h2⟩ := hq
      exact ⟨qs, by rw [h.2 Q hb]; exact h1, h2⟩
theorem nt_tup {xs : List V} : NT (.tup xs) := fun _ z => by cases z
theorem nt_lst {xs : List V} : NT (.lst xs) := fun _ z => by cases z
theorem nt_frz {o : Obj} {x : HO} : NT (.frz o x) := fun _ z => by cases z
theorem Sm.tup {K : PySem.W.Frag} {H H' : Hp} {a : Addr} {xs : List V} (e : Sm H H') (h : SqT K H a xs) : SqT K H' a xs := by
  rcases h with (h | ⟨o, h⟩) | h
  · exact .inl (.inl (e.k _ _ h nt_tup))
  · exact .inl (.inr ⟨o, e.k _ _ h nt_frz⟩)
  · exact .inr h
theorem Sm.lst {K : PySem.W.Frag} {H H' : Hp} {a : Addr} {xs : List V} (e : Sm H H') (h : SqL K H a xs) : SqL K H' a xs := by
  rcases h with (h | ⟨o, h⟩) | h
  · exact .inl (.inl (e.k _ _ h nt_lst))
  · exact .inl (.inr ⟨o, e.k _ _ h nt_frz⟩)
  · exact .inr h
/-- what comes back, tables grown -/
def MetV (v : V) (H : Hp) (Q : VK) : Prop := ∀ H', Sm H H' → Q v H'
def MetT (xs : List V) (H : Hp) (Q : VK) : Prop := ∀ p H', Sm H H' → H' p = some (.tup xs) → Q (.ref p) H'
theorem MetT.new {xs : List V} {H H' : Hp} {Q : VK} (k : MetT xs H Q) (e : Sm H H') : ∀ p, H' p = none → Q (.ref p) (upd H' p (.tup xs)) := fun p hp =>
  k p _ (e.trans (.of (same_new hp))) upd_same
/-- the def x's code object and its table -/
def cod (K : PySem.W.Frag) (x : Str) : Addr := match PySem.W.tabIn K x with
  | some (c, _) => c
  | none => 0
def tbl (K : PySem.W.Frag) (x : Str) : Addr := match PySem.W.tabIn K x with
  | some (_, P) => P
  | none => 0
theorem cod_of {K : PySem.W.Frag} {x : Str} {c P : Addr} (h : PySem.W.tabIn K x = some (c, P)) : cod K x = c := by unfold cod; rw [h]
theorem tbl_of {K : PySem.W.Frag} {x : Str} {c P : Addr} (h : PySem.W.tabIn K x = some (c, P)) : tbl K x = P := by unfold tbl; rw [h]
/-- a def whose code object is c -/
structure FunC (K : PySem.W.Frag) (x qual : Str) (st : Stmt) (f : Addr) (fd : FuncData) (c : Addr) : Prop where
  ex : ∃ (oc : Value) (od : Option Addr) (kV doc pm : Value) (an : Option Addr) (ct : Value) (osl : Array (Option Value)),
    fd = PySem.W.fnOf x qual (defArgs st) (defBody st) (defScope st) .none kV doc pm an (.ref c) ct ∧ K.lookup f = some ⟨oc, od, .func fd, osl⟩ ∧ PySem.W.codeIn K (.ref c) qual = true
section
variable {P : Program} {w : World} {K : PySem.W.Frag} {mg : Str → Option Value} {base : Heap}
theorem FunC.ok {x qual : Str} {st : Stmt} {f : Addr} {fd : FuncData} {c : Addr} {N ps : List Str} {k : Nat} {sp : Sp} (F : FunC K x qual st f fd c) (S : FnScope N ps (defScope st)) (len : ∀ vs H Q E, sp vs H Q E → vs.length = ps.length)
    (hbody : ∀ (A : Around) (outer : List Env) (s : Shared) (H : Hp) (vs : List V) (Q : VK) (E : XK), Room k (A.deeper (envOfC qual (defScope st) s.heap.objs.size f (.ref c))) → sp vs H Q E →
      ∃ t, PSs (cxOf CX0 P w K mg base N qual (defScope st) f (.ref c) A outer s H E).nox (defBody st) t ∧ t { nx := fun _ H' => Q .non H', rt := Q } (start N vs) H) : FnOk P w K mg base CX0 (k + 1) f fd ps sp := by
  obtain ⟨oc, od, kV, doc, pm, an, ct, osl, rfl, lk, hcd⟩ := F.ex
  refine fn_of lk hcd S len fun A outer s H vs Q E hr hsp => ?_
  obtain ⟨t, h, q⟩ := hbody A outer s H vs Q E hr hsp
  exact ⟨t, h.nox, q⟩
theorem funC_mk {x qual : Str} {st : Stmt} {f : Addr} {c P' : Addr} {y : Str} {oc : Value} {od an : Option Addr} {osl : Array (Option Value)} {kV doc pm ct : Value} (l : K.lookup f = some ⟨oc, od, .func (PySem.W.fnOf x qual (defArgs st) (defBody st) (defScope st) .none kV doc pm an (.ref c) ct), osl⟩)
    (hc : PySem.W.codeIn K (.ref c) qual = true) (ht : PySem.W.tabIn K y = some (c, P')) : FunC K x qual st f (PySem.W.fnOf x qual (defArgs st) (defBody st) (defScope st) .none kV doc pm an (.ref c) ct) (cod K y) := by
  rw [cod_of ht]
  exact ⟨oc, od, kV, doc, pm, an, ct, osl, rfl, l, hc⟩
end
theorem FunC.toF {K : PySem.W.Frag} {x qual : Str} {st : Stmt} {f : Addr} {fd : FuncData} {c : Addr} (F : FunC K x qual st f fd c) (k : PySem.W.keepIn K (.ref f) = true) : Fun K x qual st f fd := by
  obtain ⟨oc, od, kV, doc, pm, an, ct, osl, e, lk, hcd⟩ := F.ex
  exact ⟨⟨oc, od, kV, doc, pm, an, _, ct, osl, e, lk, hcd⟩, k⟩
theorem tabB_of {base : Heap} {mg : Str → Option Value} {K : PySem.W.Frag} {x : Str} {c P : Addr} (h : LamX.TabB base mg c P) (ht : PySem.W.tabIn K x = some (c, P)) : GxR.TabB base mg (cod K x) (tbl K x) := by
  rw [cod_of ht, tbl_of ht]
  exact ⟨h.code, h.bm, h.gP⟩
/-- the end of a row whose defs hold generator expressions -/
theorem walk_ofG {l : PySem.W.OpenLaw} {n k : Nat} {q : Program} {loose : List Str} {XP : (Str → Option Value) → Heap → Prop} {YP : World → Heap → Prop} {d : DefRec} {K : Params → PySem.W.Frag} {CX : World → CXT} {x : Str}
    (hn : l.most = some n) (hn2 : n ≤ sizeLine) (hdf : d.params.defaults = []) (hr : Room k callerA) (hY : ∀ (w : World) (h : Heap), YP w h → (K w.params).In h)
    (F : ∀ (w : World) (mg : Str → Option Value) (fa : Addr) (h : Heap), YP w h → (K w.params).In h → h.Ns mainGlobals mg → mg d.name = some (.ref fa) →
      (∀ (x : Str) (c P : Addr), ((recsOf q).any fun e => e.name == x) = true → PySem.W.tabIn (K w.params) x = some (c, P) → PySem.W.CodeHd h c P ∧ h.get? P = some { cls := .none, data := .fields #[] }) → LamX.LawAtS l w (K w.params) (CX w) k n x mg fa h)
    (hCX : ∀ (w : World) (H : Hp) (s : Shared) (e : Value) (s' : Shared), CX w [] H s (fun _ _ _ => False) e s' → False) :
    PySem.W.WalkO q loose XP YP l.row.toRowW d [] (fun f vs => PySem.call f vs) := by
  refine Att.attach_callB hn hdf fun w s₀ s₁ mg mb fa o pm cd doc a vs ns G Y ho hd hcd hmg hobj hints hlen hbits hg => ?_
  have KX := hY w _ Y
  obtain ⟨fd, cs, sp, hT, nT, C, hb, hsp, hF⟩ := F w mg fa _ Y KX G.T.g hmg fun x c P hrec ht => by
    obtain ⟨dL, hf⟩ : ∃ dL, (recsOf q).find? (fun e => e.name == x) = some dL := by
      cases e : (recsOf q).find? (fun e => e.name == x) with
      | some dL => exact ⟨dL, rfl⟩
      | none =>
        rw [List.find?_eq_none] at e
        obtain ⟨z, hz, h2⟩ := List.any_eq_true.mp hrec
        exact absurd h2 (e z hz)
    exact PySem.W.tab_of G.T KX hf ht
  exact LamX.law_callTs KX G.T.g G.T.b G.T.builtins G.T.nolimit hg hT nT C G.T.bmain hobj hints (Nat.le_trans hlen hn2) hr hF hb (fun H hH hS => hsp H a ns hlen hbits hH hS) fun H e s' => hCX w H s₁ e s'
end WP

namespace WP
open PySem PySem.Spec PyProof.Rows L2
/-! ### own classes -/
structure ClsOk (K : PySem.W.Frag) (mg : MG) (nm : Str) (at' : List Str) : Prop where
  m : mg nm = some (.ref (ca mg nm))
  c : Cls K (ca mg nm)
  n : ∀ f ∈ at', NoAttr K (ca mg nm) f
theorem ClsOk.mk' {K : PySem.W.Frag} {mg : MG} {nm : Str} {at' : List Str} {C : Addr} (h : mg nm = some (.ref C)) (c : Cls K C) (n : ∀ f ∈ at', NoAttr K C f) : ClsOk K mg nm at' := by
  have e := ca_of h
  exact ⟨by rw [e]; exact h, by rw [e]; exact c, by rw [e]; exact n⟩
/-- a method that may be called -/
structure CalleeM (P : Program) (w : World) (K : PySem.W.Frag) (mg : MG) (base : Heap) (CX : CXT) (lv : Nat) (nm m : Str) (ps : List Str) (sp : Sp) : Prop where
  ex : ∃ (f : Addr) (fd : FuncData), FnOk P w K mg base CX lv f fd ps sp ∧ Meth K (ca mg nm) m f ∧ Binds K fd ps []
theorem CalleeM.mk' {P : Program} {w : World} {K : PySem.W.Frag} {mg : MG} {base : Heap} {CX : CXT} {lv : Nat} {nm m : Str} {ps : List Str} {sp : Sp} {C f : Addr} {fd : FuncData}
    (h : FnOk P w K mg base CX lv f fd ps sp) (hc : mg nm = some (.ref C)) (hm : Meth K C m f) (b : Binds K fd ps []) : CalleeM P w K mg base CX lv nm m ps sp := ⟨⟨f, fd, h, by rw [ca_of hc]; exact hm, b⟩⟩
/-- a class that may be made -/
structure CalleeI (P : Program) (w : World) (K : PySem.W.Frag) (mg : MG) (base : Heap) (CX : CXT) (lv : Nat) (nm : Str) (ps : List Str) (sp : Sp) : Prop where
  ex : ∃ (f : Addr) (fd : FuncData), FnOk P w K mg base CX lv f fd ps sp ∧ Mk K (ca mg nm) f ∧ Binds K fd ps []
theorem CalleeI.mk' {P : Program} {w : World} {K : PySem.W.Frag} {mg : MG} {base : Heap} {CX : CXT} {lv : Nat} {nm : Str} {ps : List Str} {sp : Sp} {C f : Addr} {fd : FuncData}
    (h : FnOk P w K mg base CX lv f fd ps sp) (hc : mg nm = some (.ref C)) (hm : Mk K C f) (b : Binds K fd ps []) : CalleeI P w K mg base CX lv nm ps sp := ⟨⟨f, fd, h, by rw [ca_of hc]; exact hm, b⟩⟩
section
variable {K : PySem.W.Frag} {σ : L2.St} {H : Hp} {Q : VK} {ta tv : TE} {t : TA} {f m : Str} {p C dx : Addr} {fs : List (Str × V)} {v : V} {D : Ends} {sp : Sp} {dvs : List V} {E : XK} {mg : MG} {nm : Str} {at' : List Str}
/-- steps -/
theorem fld (h : ta σ H fun x H1 => ∃ a C dx fs v, x = .ref a ∧ H1 a = some (.ins C dx fs) ∧ Cls K C ∧ NoAttr K C f ∧ fs.lookup f = some v ∧ Q v H1) : tFld K ta f σ H Q := h
theorem fldA (k : ClsOk K mg nm at') (hp : H p = some (.ins (ca mg nm) dx fs)) (hl : fs.lookup f = some v) (q : Q v H) (hm : f ∈ at' := by decide +kernel) :
    ∃ a C dx fs v, V.ref p = .ref a ∧ H a = some (.ins C dx fs) ∧ Cls K C ∧ NoAttr K C f ∧ fs.lookup f = some v ∧ Q v H := ⟨p, _, dx, fs, v, rfl, hp, k.c, k.n f hm, hl, q⟩
theorem sfld (h : tv σ H fun y H1 => ta σ H1 fun x H2 => ∃ a C dx fs, x = .ref a ∧ H2 a = some (.ins C dx fs) ∧ Cls K C ∧ NoAttr K C f ∧ fs.length < 1000 ∧ D.nx σ (upd H2 a (.ins C dx (putF f y fs)))) : sFld K ta tv f D σ H := h
theorem sfldA {R : Hp → Prop} (k : ClsOk K mg nm at') (hp : H p = some (.ins (ca mg nm) dx fs)) (hl : fs.length < 1000) (q : R (upd H p (.ins (ca mg nm) dx (putF f v fs)))) (hm : f ∈ at' := by decide +kernel) :
    ∃ a C dx fs, V.ref p = .ref a ∧ H a = some (.ins C dx fs) ∧ Cls K C ∧ NoAttr K C f ∧ fs.length < 1000 ∧ R (upd H a (.ins C dx (putF f v fs))) := ⟨p, _, dx, fs, rfl, hp, k.c, k.n f hm, hl, q⟩
theorem meth (h : ta σ H fun x H1 => ∃ a dx fs, x = .ref a ∧ H1 a = some (.ins C dx fs) ∧ fs.lookup m = none ∧ t σ H1 fun vs H2 => sp (x :: (vs ++ dvs)) H2 Q E) : tMeth C m sp dvs E ta t σ H Q := h
theorem methA {R : Hp → Prop} (hp : H p = some (.ins C dx fs)) (hl : fs.lookup m = none) (q : R H) : ∃ a dx fs, V.ref p = .ref a ∧ H a = some (.ins C dx fs) ∧ fs.lookup m = none ∧ R H := ⟨p, dx, fs, rfl, hp, hl, q⟩
theorem make (h : t σ H fun vs H1 => ∀ x dx, H1 x = none → H1 dx = none → dx ≠ x → sp (.ref x :: (vs ++ dvs)) (upd (upd H1 dx (.own x)) x (.ins C dx [])) (fun v H2 => v = .non ∧ Q (.ref x) H2) E) : tMake C sp dvs E t σ H Q := h
end
theorem same_made {H : Hp} {x dx C : Addr} (nx : H x = none) (nd : H dx = none) : Same H (upd (upd H dx (.own x)) x (.ins C dx [])) := fun b o e => by
  rw [upd_ne (ne_of_none e nx), upd_ne (ne_of_none e nd)]
  exact e
/-! ### list of a text -/
def rListS : List V → Hp → VK → Prop := fun xs H Q => ∃ l : List Nat, xs = [.str (SX.S l)] ∧ l.length ≤ sizeLine ∧ ∀ p, H p = none → Q (.ref p) (upd H p (.lst ((l.map fun c => SX.S [c]).map V.str)))
theorem signs_vals {l : List Nat} {acc : Array Value} (h : ItemsOf (SignAt (SX.S l)) acc (SX.S l).cps.size) : Vals ((l.map fun c => SX.S [c]).map V.str) acc.toList := by
  obtain ⟨h1, h2⟩ := h
  have hs : (SX.S l).cps.size = l.length := by simp [SX.S]
  rw [hs] at h1
  have g : ∀ (xs : List Nat) (us : List Value), xs.length = us.length → (∀ (j : Nat) (u : Value), us[j]? = some u → ∃ (c : Nat) (t : Tok), xs[j]? = some c ∧ u = .str ⟨#[c]⟩ t) → Vals ((xs.map fun c => SX.S [c]).map V.str) us := by
    intro xs
    induction xs with
    | nil =>
      intro us hl _
      have : us = [] := List.length_eq_zero_iff.mp hl.symm
      subst this
      exact .nil
    | cons x xs ih =>
      intro us hl hu
      match us, hl, hu with
      | u :: us, hl, hu =>
        obtain ⟨c, t, hc, rfl⟩ := hu 0 u rfl
        cases hc
        exact .cons ⟨t, rfl⟩ (ih us (by simpa using hl) fun j u' hj => hu (j + 1) u' hj)
  refine g l acc.toList (h1.symm.trans Array.length_toList.symm) fun j u hj => ?_
  rw [Array.getElem?_toList] at hj
  obtain ⟨c, t, hc, e⟩ := h2 j u hj
  refine ⟨c, t, ?_, e⟩
  rw [← hc]; simp [SX.S]
theorem c_listS {X : Cx} (hc : X.calm = true) : CallR X (.type "list") rListS := by
  intro pins s σ H xs us Q I r h
  obtain ⟨l, rfl, hl, q⟩ := h
  obtain ⟨u, rfl, rx⟩ := vals1 r
  obtain ⟨t, rfl⟩ := rx
  have hz : (SX.S l).cps.size ≤ sizeLine := by
    have : (SX.S l).cps.size = l.length := by simp [SX.S]
    omega
  refine call_list_str (I.ok.hd hc) (SX.S l) t (fun h' tk acc' c' kp e hit => ?_) hz
  refine ⟨.ref s.heap.objs.size, _, I.laid (t' := tk) kp (Nat.le_refl _) (show ObjOk X.prog X.w _ h' _ (.lst ((l.map fun c => SX.S [c]).map V.str)) from ⟨?_, acc'.toList, c', signs_vals hit, ?_⟩), rfl, q _ (I.hok.fresh (Nat.le_refl _))⟩
  · rw [List.length_map, List.length_map]; exact hl
  · exact e
theorem listS {l : List Nat} {H : Hp} {Q : VK} (hl : l.length ≤ sizeLine) (q : ∀ p, H p = none → Q (.ref p) (upd H p (.lst ((l.map fun c => SX.S [c]).map V.str)))) : rListS [.str (SX.S l)] H Q := ⟨l, rfl, hl, q⟩
/-! ### xs[a:b] = ys -/
def gSl (to : TE) (tl th : TO) : TG := fun v σ H QS => to σ H fun o H1 => tl σ H1 fun a H2 => th σ H2 fun c H3 => ∃ (p b : Addr) (xs ys : List V) (i j : Int), o = .ref p ∧ a = some i ∧ c = some j ∧ v = .ref b ∧ H3 p = some (.lst xs) ∧ H3 b = some (.lst ys) ∧ p ≠ b ∧ 0 ≤ i ∧ i ≤ j ∧ j ≤ xs.length ∧ xs.length + ys.length ≤ sizeLine ∧
  QS σ (upd H3 p (.lst (xs.take i.toNat ++ ys ++ xs.drop j.toNat)))
theorem pg_sl {X : Cx} {o : Expr} {lo hi : Option Expr} {p2 pos : Pos} {to : TE} {tl th : TO} (ho : PE X o to) (hl : PO X lo tl) (hu : PO X hi th)
    (ha : ∀ v, assign (.Subscript o (.Slice lo hi none p2) pos) X.env v = (do
      let q ← holding [v] (eval o X.env)
      let z ← holding [v, q] (eval (.Slice lo hi none p2) X.env)
      standAt pos
      holding [v, q, z] (setItem q z v)
      release [z, v, q] []) := by intro _; rfl) : PG X (.Subscript o (.Slice lo hi none p2) pos) (gSl to tl th) := by
  refine ⟨fun pins s σ H v u Q I r h => ?_⟩
  rw [ha]
  refine wpAny_bind (wpAny_holding (thn (ho.run pins s σ H _ I h) fun ov s1 ⟨x, H1, I1, r1, q1⟩ => ?_))
  refine wpAny_bind (wpAny_holding (wpAny_Slice (thn (hl.run pins s1 σ H1 _ I1 q1) fun vl s2 ⟨l, H2, I2, pl, q2⟩ => thn (hu.run pins s2 σ H2 _ I2 q2) fun vu s3 ⟨w, H3, I3, pu, q3⟩ => ?_)))
  rw [evalPart_none]
  refine wpAny_pure ?_
  obtain ⟨p, b, xs, ys, i, j, e1, e2, e3, e4, h1, h2, n, b0, b1, b2, hz, q⟩ := q3
  subst e1 e2 e3 e4
  have I4 : Inv X pins σ H3 { s3 with heap := s3.heap.push { cls := .type "slice", data := .fields #[vl, vu, .none] } } := I3.kept (t' := s3.toks) fun _ _ e => Heap.get?_push_of_some _ e
  cases r1
  cases r
  have ri : RelV (.int i) vl := by cases pl; exact ⟨_, rfl⟩
  have rj : RelV (.int j) vu := by cases pu; exact ⟨_, rfl⟩
  refine wpAny_bind (wpAny_standAt (wpAny_bind (wpAny_holding (set_slice I4 h1 h2 n (Heap.IsSliceOf.new ..) ri rj b0 b1 b2 hz fun s' I5 => ?_))))
  exact wpAny_release ⟨σ, _, I5, q⟩
theorem gsl {to : TE} {tl th : TO} {v : V} {σ : L2.St} {H : Hp} {QS : L2.St → Hp → Prop} (h : to σ H fun o H1 => tl σ H1 fun a H2 => th σ H2 fun c H3 => ∃ (p b : Addr) (xs ys : List V) (i j : Int), o = .ref p ∧ a = some i ∧ c = some j ∧ v = .ref b ∧ H3 p = some (.lst xs) ∧ H3 b = some (.lst ys) ∧ p ≠ b ∧ 0 ≤ i ∧ i ≤ j ∧ j ≤ xs.length ∧ xs.length + ys.length ≤ sizeLine ∧
  QS σ (upd H3 p (.lst (xs.take i.toNat ++ ys ++ xs.drop j.toNat)))) : gSl to tl th v σ H QS := h
/-- a list's slice -/
theorem slL {K : PySem.W.Frag} {p : Addr} {xs : List V} {lo hi : Option Int} {H : Hp} {Q : VK} (h : SqL K H p xs) (q : ∀ a, H a = none → Q (.ref a) (upd H a (.lst (cutV xs lo hi)))) : rSlL K (.ref p) lo hi H Q := ⟨p, xs, rfl, h, q⟩
theorem cut_nat {xs : List V} {i j : Nat} (h : i ≤ j) (hj : j ≤ xs.length) : cutV xs (some (i : Int)) (some (j : Int)) = (xs.drop i).take (j - i) := by
  have e1 : HT.sIx xs.length 0 (some (i : Int)) = i := by
    show (if (i : Int) < 0 then ((i : Int) + (xs.length : Int)).toNat else min (i : Int).toNat xs.length) = i
    rw [if_neg (by omega)]; omega
  have e2 : HT.sIx xs.length xs.length (some (j : Int)) = j := by
    show (if (j : Int) < 0 then ((j : Int) + (xs.length : Int)).toNat else min (j : Int).toNat xs.length) = j
    rw [if_neg (by omega)]; omega
  unfold cutV
  rw [e1, e2]
/-- all(xs) -/
theorem allL {K : PySem.W.Frag} {p : Addr} {bs : List Bool} {H : Hp} {Q : VK} (h : SqL K H p (bs.map V.bl)) (q : Q (.bl (bs.all _root_.id)) H) : rAll K [.ref p] H Q := ⟨p, bs, rfl, h, q⟩
theorem lookS {f : Str} {v : V} : List.lookup f [(f, v)] = some v := by
  show (match f == f with | true => some v | false => _) = some v
  rw [beq_self_eq_true]
section
variable {K : PySem.W.Frag} {σ : L2.St} {H : Hp} {Q : VK} {ta : TE} {f m : Str} {p dx C : Addr} {fs : List (Str × V)} {v : V} {mg : MG} {nm : Str} {at' : List Str} {i : Nat} {sp : Sp} {dvs : List V} {E : XK} {t : TA}
theorem fldV (k : ClsOk K mg nm at') (hv : σ[i]? = some (some (.ref p))) (hp : H p = some (.ins (ca mg nm) dx fs)) (hl : fs.lookup f = some v) (hm : f ∈ at') (q : Q v H) : tFld K (tVar i) f σ H Q := ⟨.ref p, hv, p, _, dx, fs, v, rfl, hp, k.c, k.n f hm, hl, q⟩
theorem fldG (k : ClsOk K mg nm at') (hm : f ∈ at') (q : ta σ H fun x H1 => ∃ p dx fs v, x = .ref p ∧ H1 p = some (.ins (ca mg nm) dx fs) ∧ fs.lookup f = some v ∧ Q v H1) (mono : ∀ (R R' : VK), (∀ x H, R x H → R' x H) → ta σ H R → ta σ H R') : tFld K ta f σ H Q :=
  mono _ _ (fun x H1 ⟨p, dx, fs, v, e, hp, hl, q⟩ => ⟨p, _, dx, fs, v, e, hp, k.c, k.n f hm, hl, q⟩) q
theorem methV (hv : σ[i]? = some (some (.ref p))) (hp : H p = some (.ins C dx fs)) (hl : fs.lookup m = none) (q : t σ H fun vs H2 => sp (.ref p :: (vs ++ dvs)) H2 Q E) : tMeth C m sp dvs E (tVar i) t σ H Q := ⟨.ref p, hv, p, dx, fs, rfl, hp, hl, q⟩
end
end WP

namespace WP
open PySem PySem.Spec PyProof.Rows L2
/-! ### exceptions with an own __init__ that stores fields -/
structure ExiOk (K : PySem.W.Frag) (mg : MG) (nm : Str) (ats : List Str) : Prop where
  m : mg nm = some (.ref (ca mg nm))
  o : OexC K (ca mg nm)
  x : XfC K (ca mg nm)
  n : ∀ f ∈ ats, PySem.W.findIn K (.ref (ca mg nm)) f = some none
  c : ExcC K (ca mg nm)
theorem ExiOk.mk' {K : PySem.W.Frag} {mg : MG} {nm : Str} {C : Addr} {ats : List Str} (h : mg nm = some (.ref C)) (o : OexC K C) (x : XfC K C) (n : ∀ f ∈ ats, PySem.W.findIn K (.ref C) f = some none) (c : ExcC K C) : ExiOk K mg nm ats := by
  have e := ca_of h
  exact ⟨by rw [e]; exact h, by rw [e]; exact o, by rw [e]; exact x, by rw [e]; exact n, by rw [e]; exact c⟩
theorem ExiOk.catches {K : PySem.W.Frag} {mg : MG} {nm : Str} {ats : List Str} (x : ExiOk K mg nm ats) {cls : Value} {b : Bool} (h : PySem.W.subIn K cls (.ref (ca mg nm)) = some b) : PySem.W.exmOne K cls (.ref (ca mg nm)) = some b := PySem.W.exm_ref x.o.exC x.x.hdC x.o.tyC h
structure CalleeE (P : Program) (w : World) (K : PySem.W.Frag) (mg : MG) (base : Heap) (CX : CXT) (lv : Nat) (nm : Str) (ps : List Str) (sp : Sp) : Prop where
  ex : ∃ (f : Addr) (fd : FuncData), FnOk P w K mg base CX lv f fd ps sp ∧ PySem.W.findIn K (.ref (ca mg nm)) "__init__" = some (some (.ref f)) ∧ PySem.W.typeIn K (.ref f) = some (.type "function") ∧ Binds K fd ps []
theorem CalleeE.mk' {P : Program} {w : World} {K : PySem.W.Frag} {mg : MG} {base : Heap} {CX : CXT} {lv : Nat} {nm : Str} {ps : List Str} {sp : Sp} {C f : Addr} {fd : FuncData}
    (h : FnOk P w K mg base CX lv f fd ps sp) (hc : mg nm = some (.ref C)) (hi : PySem.W.findIn K (.ref C) "__init__" = some (some (.ref f))) (ht : PySem.W.typeIn K (.ref f) = some (.type "function")) (b : Binds K fd ps []) : CalleeE P w K mg base CX lv nm ps sp := ⟨⟨f, fd, h, by rw [ca_of hc]; exact hi, ht, b⟩⟩
section
variable {X : Cx} {x : Str} {e : Expr} {es : List Expr} {ta : TA} {p pos pos2 : Pos} {W : WX} {CX : CXT} {k : Nat} {ps : List Str} {sp : Sp} {ats : List Str}
theorem ps_raiseE (hc : X.calm = true) (tk : Takes X W) (o : ExiOk X.K X.mg x ats) (c : CalleeE X.prog X.w X.K X.mg X.base CX k x ps sp) (hr : Room (k + 1) X.A) (hx : Passes CX X (fun _ _ _ => False)) (hg : Gl X x) (ha : PA X (e :: es) ta)
    (nd : (x == ("__debug__" : Str)) = false := by decide) (sh : starEach (e :: es) X.env = (false, eval e X.env) :: starEach es X.env := by rfl) (sp1 : (backTo pos (starEach es X.env)).any (·.1) = false := by rfl) :
    PS X (.Raise (some (.Call (.Name x p) (e :: es) [] pos)) none pos2) (fun _ σ H => tMkO (ca X.mg x) sp [] ta σ H fun cls d H' => W cls d σ H') := by
  obtain ⟨f, fd, F, hi, ht, b⟩ := c.ex
  exact ps_raise hc tk (pmk_oex o.o hi ht F hr b .nil hx hg o.m ha nd sh sp1)
end
end WP
namespace WP
open PySem PySem.Spec PyProof.Rows L2
/-- what a store into self asks behind its value y and its object z -/
def OstQ (K : PySem.W.Frag) (f : Str) (D : Ends) (σ : L2.St) (y z : V) (G : Hp) : Prop :=
  ∃ b B : Addr, z = .ref b ∧ OexC K B ∧ PySem.W.findIn K (.ref B) f = some none ∧ ((G b = some (exo b B none) ∧ ∀ dy, G dy = none → dy ≠ b → D.nx σ (upd (upd G dy (exd dy [(f, y)])) b (exo b B (some dy)))) ∨
    ∃ (dy : Addr) (gs : List (Str × V)), G b = some (exo b B (some dy)) ∧ G dy = some (exd dy gs) ∧ gs.length ≤ 900 ∧ D.nx σ (upd G dy (exd dy ((f, y) :: gs))))
theorem ost {K : PySem.W.Frag} {f : Str} {to te : TE} {D : Ends} {σ : L2.St} {H : Hp} (h : te σ H fun y H1 => to σ H1 fun z G => OstQ K f D σ y z G) : tOst K f to te D σ H := h
end WP
namespace WP
open PySem PySem.Spec PyProof.Rows L2
theorem mko {C : Addr} {sp : Sp} {dvs : List V} {ta : TA} {σ : L2.St} {H : Hp} {Q : XK} (h : ta σ H fun vs H1 => vs.length ≤ 1000 ∧ ∀ a, H1 a = none → sp (.ref a :: (vs ++ dvs)) (upd H1 a (exo a C none))
  (fun v H2 => v = .non ∧ ∃ (d : Addr) (fs : List (Str × V)), H2 a = some (exo a C (some d)) ∧ H2 d = some (exd d fs) ∧ H1 d = none ∧ Q (.ref C) (some d) (upd (del H2 a) d (.xd fs))) (fun _ _ _ => False)) : tMkO C sp dvs ta σ H Q := h
end WP

namespace WP
open PySem PySem.Spec PyProof.Rows L2
/-! ### exceptions as values -/
/-- C(e, ..) as a value, C's own __init__ keeping sp -/
def tMkV (C : Addr) (sp : Sp) (ta : TA) : TE := fun σ H Q => ta σ H fun vs H1 => vs.length ≤ 1000 ∧ ∀ a, H1 a = none → sp (.ref a :: (vs ++ [])) (upd H1 a (exo a C none)) (fun v H2 => v = .non ∧ Q (.ref a) H2) (fun _ _ _ => False)
/-- C() as a value, C without own __init__ -/
def tMk0 (C : Addr) : TE := fun _ H Q => ∀ a, H a = none → Q (.ref a) (upd H a (ExO (.ref C) a))
/-- at a: an exception of the class at D -/
def Trk (H : Hp) (a D : Addr) : Prop := H a = some (ExO (.ref D) a) ∨ ∃ d fs, H a = some (exo a D (some d)) ∧ H d = some (exd d fs)
section
variable {X : Cx} {x : Str} {e : Expr} {es : List Expr} {ta : TA} {te : TE} {p pos pos2 : Pos} {W : WX} {CX : CXT} {k : Nat} {ps : List Str} {sp : Sp} {ats : List Str}
theorem pe_excV (o : ExiOk X.K X.mg x ats) (c : CalleeE X.prog X.w X.K X.mg X.base CX k x ps sp) (hr : Room (k + 1) X.A) (hx : Passes CX X (fun _ _ _ => False)) (hg : Gl X x) (ha : PA X (e :: es) ta)
    (hdb : (x == ("__debug__" : Str)) = false := by decide) (he : starEach (e :: es) X.env = (false, eval e X.env) :: starEach es X.env := by rfl) (hpl : (backTo pos (starEach es X.env)).any (·.1) = false := by rfl) :
    PE X (.Call (.Name x p) (e :: es) [] pos) (tMkV (ca X.mg x) sp ta) := by
  obtain ⟨fI, fd, F1, iC, tI, hb⟩ := c.ex
  refine ⟨fun pins s σ H Q I h => ?_⟩
  obtain ⟨nm, q, N, bs, bm, sn, sub, ab, col, dd, k0, k1, k2, k3, k5, hC, hbm⟩ := o.o.cls
  refine wpAny_Call_Name_kw (ld_glob I hg o.m ?_ hdb)
  refine PySem.W.callWith_K (h₀ := X.base) I.ok.mod.kin o.o.kC (thn (ha.run pos pins s σ H _ I h) fun us s1 ⟨vs, H1, I1, r1, hz, q1⟩ => ⟨I1.kIn, ?_⟩) he hpl
  show wpAny _ _ (PySem.call (.ref (ca X.mg x)) us) _ _ _
  obtain ⟨hp, g, dr, tk, os⟩ := s1
  have hsz : hp.objs.size ≤ hp.objs.size + 1 := Nat.le_succ _
  have hn : H1 (hp.objs.size + 1) = none := I1.hok.fresh hsz
  have hq := q1 (hp.objs.size + 1) hn
  have kk : ∀ b o, hp.get? b = some o → ((hp.push (PySem.W.kdv_tup us)).push (PySem.HandSPX.excO (ca X.mg x) hp.objs.size)).get? b = some o := fun b o e => Heap.get?_push_of_some _ (Heap.get?_push_of_some _ e)
  have hget : ((hp.push (PySem.W.kdv_tup us)).push (PySem.HandSPX.excO (ca X.mg x) hp.objs.size)).get? (hp.objs.size + 1) = some (PySem.HandSPX.excO (ca X.mg x) hp.objs.size) := by heap_get
  have I2 : Inv X pins σ (upd H1 (hp.objs.size + 1) (exo (hp.objs.size + 1) (ca X.mg x) none)) ⟨(hp.push (PySem.W.kdv_tup us)).push (PySem.HandSPX.excO (ca X.mg x) hp.objs.size), g, dr, tk, os⟩ :=
    I1.laid (t' := tk) (a := hp.objs.size + 1) (o := exo (hp.objs.size + 1) (ca X.mg x) none) (h' := (hp.push (PySem.W.kdv_tup us)).push (PySem.HandSPX.excO (ca X.mg x) hp.objs.size)) kk hsz (exo_ok hget)
  have r2 : Vals (V.ref (hp.objs.size + 1) :: (vs ++ [])) (Value.ref (hp.objs.size + 1) :: (us ++ [])) := .cons rfl (r1.append .nil)
  have hl : (Value.ref (hp.objs.size + 1) :: us ++ []).length = ps.length := by
    have e := r2.length
    rw [F1.len _ _ _ _ hq] at e
    exact e.symm
  have hus : us.length ≤ sizeLine := by
    rw [← Paired.length r1, sizeLine_eq]
    omega
  have b2 := hb ⟨(hp.push (PySem.W.kdv_tup us)).push (PySem.HandSPX.excO (ca X.mg x) hp.objs.size), g, dr, tk, os⟩ (Value.ref (hp.objs.size + 1) :: us) I2.kIn hl
  rw [List.append_nil] at b2
  have r3 : Vals (V.ref (hp.objs.size + 1) :: (vs ++ [])) (Value.ref (hp.objs.size + 1) :: us) := by rw [List.append_nil]; exact .cons rfl r1
  refine wpAny_call (PySem.HandSPX.call_own PySem.F.excBase_ValueError (fun Y => PySem.HandSPX.refsVE_contains Y bm hbm) (I1.kIn _ _ hC) (PySem.W.looks_findIn I1.kIn iC) (fun self => PySem.W.bind_fn I1.kIn self tI) hus
    (codeAny_mono (F1.run _ X.stack _ _ ⟨Value.ref (hp.objs.size + 1) :: us, []⟩ (Value.ref (hp.objs.size + 1) :: us) _ _ (fun _ _ _ => False) (hr.make (ca X.mg x) us []) (I2.env0.make (ca X.mg x) us []) b2 r3 hq) fun r s' hq' => ?_))
  cases r with
  | error er => exact hx pins σ _ _ er s' I2 hq'
  | ok fl =>
    cases fl with
    | ret u =>
      obtain ⟨v, H2, I3, rv, ev, q2⟩ := I2.after hq'
      subst ev
      exact ⟨rv, .ref (hp.objs.size + 1), H2, I3, rfl, q2⟩
    | next => exact False.elim hq'
    | brk => exact False.elim hq'
    | cont => exact False.elim hq'
theorem pe_exc0V (o : ExcOk X.K X.mg x) (hg : Gl X x) (hdb : (x == ("__debug__" : Str)) = false := by decide) : PE X (.Call (.Name x p) [] [] pos) (tMk0 (ca X.mg x)) := by
  refine ⟨fun pins s σ H Q I h => ?_⟩
  refine wpAny_Call_Name_kw (ld_glob I hg o.m ?_ hdb)
  refine PySem.W.callWith_K0 I.kIn o.a.k ?_
  obtain ⟨bm, N, nm, qn, bs, hdct, sn, sub, ab, col, dd, k0, k1, k2, k3, k5, mN, hC, hN, hni, T⟩ := exc_obj I.kIn o.a.x
  refine wpAny_call_exc_subT PySem.F.excBase_ValueError T hC hN hni (fun h' a hm => ?_) (by show 0 ≤ sizeLine; rw [sizeLine_eq]; omega)
  have hn : H a = none := I.hok.gone hm.new
  obtain ⟨t, ht, _, _⟩ := hm.there
  exact ⟨.ref a, upd H a (ExO (.ref (ca X.mg x)) a), I.laidN hm.keeps hm.new hn (exO_ok ht ⟨rfl, rfl⟩ rfl rfl rfl (show 4 < 6 by decide)), rfl, h a hn⟩
/-- isinstance of an exception that is a value -/
def rIsV (K : PySem.W.Frag) : List V → Hp → VK → Prop := fun xs H Q =>
  ∃ (a D : Addr) (c : V) (cv : Value) (b : Bool), xs = [.ref a, c] ∧ Trk H a D ∧ (∀ u, RelV c u → u = cv) ∧ ExcC K D ∧ PySem.W.kitOne K (.ref D) cv = some b ∧ Q (.bl b) H
theorem Trk.inst {K : PySem.W.Frag} {P : Program} {w : World} {H : Hp} {h : Heap} {a D : Addr} (t : Trk H a D) (hok : HOk P w H h) : ∃ oe od, PySem.W.InstAt h a oe D od := by
  rcases t with ha | ⟨d, fs, ha, hd⟩
  · obtain ⟨⟨oe, vs, ho, hz, hd, h1, h2, _⟩, _, _⟩ := hok a _ ha
    exact ⟨oe, none, ho, hz.1, by unfold PySem.W.notCls; rw [hd] <;> rfl, by rw [hz.2]; trivial⟩
  · obtain ⟨t1, ho⟩ := exo_at hok ha
    obtain ⟨mA, hns, rel⟩ := exd_at hok hd
    obtain ⟨od, ho2, _⟩ := lookIn_ns hns
    exact ⟨_, some od, ho, rfl, rfl, ho2⟩
theorem call_isV : CallR X (.builtin "isinstance") (rIsV X.K) := by
  intro pins s σ H xs us Q I r h
  obtain ⟨a, D, c, cv, b, rfl, T, hcv, C, e, q⟩ := h
  cases r with
  | cons rx r1 =>
    cases r1 with
    | cons rt r2 =>
      cases r2
      cases rx
      obtain rfl := hcv _ rt
      obtain ⟨oe, od, J⟩ := T.inst (K := X.K) I.hok
      have hcl : (PySem.W.clsIn X.K D).isSome = true := by
        obtain ⟨cd, hc, _⟩ := PySem.W.any_some C.hd
        rw [hc]; rfl
      exact PySem.W.kia_one (PySem.W.kitx_exc hcl C.hg C.hk C.hs C.ha C.hn C.ht C.hm) I.kIn J e (fun z => nomatch z) fun tk => ⟨.bl b, H, I.kept (t' := tk) fun _ _ z => z, rfl, q⟩
theorem isV {K : PySem.W.Frag} {a D C : Addr} {b : Bool} {H : Hp} {Q : VK} (t : Trk H a D) (c : ExcC K D) (h : PySem.W.kitOne K (.ref D) (.ref C) = some b) (q : Q (.bl b) H) : rIsV K [.ref a, .ref C] H Q :=
  ⟨a, D, .ref C, .ref C, b, rfl, t, fun _ r => r, c, h, q⟩
theorem isVT {K : PySem.W.Frag} {a D : Addr} {n : String} {b : Bool} {H : Hp} {Q : VK} (t : Trk H a D) (c : ExcC K D) (h : PySem.W.kitOne K (.ref D) (.type n) = some b) (q : Q (.bl b) H) : rIsV K [.ref a, .ty n] H Q :=
  ⟨a, D, .ty n, .type n, b, rfl, t, fun _ r => r, c, h, q⟩
/-- x.f of an exception that is a value -/
def tXV (K : PySem.W.Frag) (f : Str) (te : TE) : TE := fun σ H Q => te σ H fun x H1 => ∃ (a D d : Addr) (fs : List (Str × V)) (v : V), x = .ref a ∧ H1 a = some (exo a D (some d)) ∧ H1 d = some (exd d fs) ∧ XfC K D ∧ PySem.W.findIn K (.ref D) f = some none ∧ fs.lookup f = some v ∧ Q v H1
theorem pe_xv {n : Str} (he : PE X e te) (hb : attributeBase e n X.env (eval e X.env) = eval e X.env := by rfl) : PE X (.Attribute e n pos) (tXV X.K n te) := by
  refine ⟨fun pins s σ H Q I h => ?_⟩
  refine attr_of hb (thn (he.run pins s σ H _ I h) fun u s1 hh => ?_)
  obtain ⟨x, H1, I1, rx, a, D, d, fs, v, ex, ea, ed, T, hno, l, q⟩ := hh
  subst ex
  obtain rfl : u = Value.ref a := rx
  obtain ⟨t1, ho⟩ := exo_at I1.hok ea
  obtain ⟨mA, hns, rel⟩ := exd_at I1.hok ed
  obtain ⟨od, ho2, hl⟩ := lookIn_ns hns
  obtain ⟨u, hu, ru⟩ := RelO.some_of (v := v) (o := mA n) (by rw [← l]; exact rel n)
  have J : PySem.W.InstAt s1.heap a _ D (some od) := ⟨ho, rfl, rfl, ho2⟩
  exact HandSPX.exc_get I1.kIn J T.ga T.gg T.exC (PySem.W.findObj_own T.hdC hno rfl (by rw [hl, hu])) (handed_of ru) ⟨v, H1, I1.tok _, ru, q⟩
end
section
variable {K : PySem.W.Frag} {σ : L2.St} {H : Hp} {Q : VK} {f : Str} {ta : TA} {sp : Sp} {C a d D : Addr} {i : Nat} {fs : List (Str × V)} {v : V} {ats : List Str} {mg : MG} {nm : Str}
theorem mkv (h : ta σ H fun vs H1 => vs.length ≤ 1000 ∧ ∀ a, H1 a = none → sp (.ref a :: (vs ++ [])) (upd H1 a (exo a C none)) (fun v H2 => v = .non ∧ Q (.ref a) H2) (fun _ _ _ => False)) : tMkV C sp ta σ H Q := h
theorem mk0 (h : ∀ a, H a = none → Q (.ref a) (upd H a (ExO (.ref C) a))) : tMk0 C σ H Q := h
theorem xv (o : ExiOk K mg nm ats) (hv : σ[i]? = some (some (.ref a))) (ha : H a = some (exo a (ca mg nm) (some d))) (hd : H d = some (exd d fs)) (hl : fs.lookup f = some v) (q : Q v H) (hm : f ∈ ats := by decide +kernel) : tXV K f (tVar i) σ H Q :=
  ⟨.ref a, hv, a, _, d, fs, v, rfl, ha, hd, o.x, o.n f hm, hl, q⟩
end
end WP

namespace D
open PySem PySem.Spec PyProof.Rows L2
local macro_rules | `(tactic| k_memK) => `(tactic| first
  | (with_reducible refine WP.eqTS ?_) | (with_reducible refine WP.neTS ?_) | (with_reducible refine WP.bm ?_) | (with_reducible refine WP.tyS ?_) | (with_reducible refine WP.gsub ?_) | (with_reducible refine WP.rng3 ?_) | (with_reducible refine WP.sfld ?_) | (with_reducible refine WP.make ?_) | (with_reducible refine WP.gsl ?_) | (with_reducible refine WP.wstr ?_) | (with_reducible refine WP.bm0 ?_) | (with_reducible refine WP.lc ?_) | (with_reducible refine WP.ost ?_) | (with_reducible refine WP.mko ?_) | (with_reducible refine WP.mkv ?_) | (with_reducible refine WP.mk0 ?_)
  | (with_reducible refine WP.seq ?_) | (with_reducible refine WP.asg ?_) | (with_reducible refine WP.name ?_)
  | ((with_reducible show tVar _ _ _ _); refine WP.var rfl ?_) | (with_reducible refine WP.con ?_) | (with_reducible refine WP.op ?_) | (with_reducible refine WP.i0 ?_)
  | (with_reducible refine WP.un ?_) | (with_reducible refine WP.rU_ ?_)
  | (with_reducible refine WP.ifS ?_) | (with_reducible refine WP.ifE ?_) | (with_reducible refine WP.test ?_) | (with_reducible refine WP.bt ?_) | (with_reducible refine WP.isbV ?_)
  | (with_reducible refine WP.ret ?_) | (with_reducible refine WP.retN ?_) | (with_reducible refine WP.drop ?_) | (with_reducible refine WP.next ?_) | (with_reducible refine WP.brk ?_) | (with_reducible refine WP.cont ?_)
  | (with_reducible refine WP.cb ?_) | (with_reducible refine WP.call ?_) | (with_reducible refine WP.cons ?_) | (with_reducible refine WP.nil ?_) | (with_reducible refine WP.tup ?_) | (with_reducible refine WP.lst ?_)
  | (with_reducible refine WP.eqI ?_) | (with_reducible refine WP.neI ?_) | (with_reducible refine WP.eqT ?_) | (with_reducible refine WP.neT ?_) | (with_reducible refine WP.eqB ?_) | (with_reducible refine WP.neB ?_)
  | (with_reducible refine WP.notT ?_) | (with_reducible refine WP.andT ?_) | (with_reducible refine WP.orT ?_) | (with_reducible refine WP.andV ?_) | (with_reducible refine WP.orV ?_) | (with_reducible refine WP.notV ?_)
  | (with_reducible refine WP.sl ?_) | (with_reducible refine WP.noPart ?_) | (with_reducible refine WP.part ?_) | (with_reducible refine WP.isi ?_) | (with_reducible refine WP.isbV ?_) | (with_reducible refine WP.gsCons ?_) | (with_reducible refine WP.gsNil ?_) | (with_reducible refine WP.forl ?_) | (with_reducible refine WP.rng1 ?_) | (with_reducible refine WP.rng2 ?_) | (with_reducible refine WP.walkL ?_) | (with_reducible refine WP.walkT ?_))
local macro_rules | `(tactic| k_updF) => `(tactic| repeat k_memK)

def top (i : Nat) : Stmt := PySem.Challenge.pw_cardwright_k00_errors_and_limits.main.body.getD i (.Pass ⟨0, 0, 0, 0⟩)
structure Blt (w : World) (K : PySem.W.Frag) (mg : Str → Option Value) : Prop where
  b_ValueError : mg "ValueError" = none
  b_int : mg "int" = none
  b_isinstance : mg "isinstance" = none
  b_len : mg "len" = none
  b_range : mg "range" = none
  c_MOST_CALLS : ∃ u, mg "MOST_CALLS" = some u ∧ RelV (.int 10) u
  c_MOST_DEPTH : ∃ u, mg "MOST_DEPTH" = some u ∧ RelV (.int 20) u
  c_MOST_DIGITS : ∃ u, mg "MOST_DIGITS" = some u ∧ RelV (.int 18) u
  c_MOST_LEVEL : ∃ u, mg "MOST_LEVEL" = some u ∧ RelV (.int 49) u
  c_MOST_LINE : ∃ u, mg "MOST_LINE" = some u ∧ RelV (.int 4000) u
  c_MOST_NAME : ∃ u, mg "MOST_NAME" = some u ∧ RelV (.int 20) u
  c_MOST_NEST : ∃ u, mg "MOST_NEST" = some u ∧ RelV (.int 8) u
  c_MOST_PROGRAM : ∃ u, mg "MOST_PROGRAM" = some u ∧ RelV (.int 40000) u
  c_MOST_SCALE : ∃ u, mg "MOST_SCALE" = some u ∧ RelV (.int 60) u
  c_MOST_STEPS : ∃ u, mg "MOST_STEPS" = some u ∧ RelV (.int 1000000000) u
  c_MOST_STORAGE : ∃ u, mg "MOST_STORAGE" = some u ∧ RelV (.int 4000) u
  c_MOST_TEXT : ∃ u, mg "MOST_TEXT" = some u ∧ RelV (.int 80) u
  c_MOST_TIMES : ∃ u, mg "MOST_TIMES" = some u ∧ RelV (.int 50) u
  xi_BadCode : WP.ExiOk K mg "BadCode" ["place", "reason"]
  xi_BadData : WP.ExiOk K mg "BadData" ["reason", "name"]
  xi_BadJob : WP.ExiOk K mg "BadJob" ["reason"]
  xi_BadPart : WP.ExiOk K mg "BadPart" ["reason", "name"]
  xi_BadProgram : WP.ExiOk K mg "BadProgram" ["line", "reason"]
  xi_Halt : WP.ExiOk K mg "Halt" ["end"]
  e_BadDecimal : WP.ExcOk K mg "BadDecimal"
  e_BadPicture : WP.ExcOk K mg "BadPicture"
  e_CardError : WP.ExcOk K mg "CardError"
  t_BadCode_ValueError : PySem.W.kitOne K (.ref (WP.ca mg "BadCode")) (.type "ValueError") = some true
  t_BadData_ValueError : PySem.W.kitOne K (.ref (WP.ca mg "BadData")) (.type "ValueError") = some true
  t_BadDecimal_ValueError : PySem.W.kitOne K (.ref (WP.ca mg "BadDecimal")) (.type "ValueError") = some true
  t_BadJob_ValueError : PySem.W.kitOne K (.ref (WP.ca mg "BadJob")) (.type "ValueError") = some true
  t_BadPart_ValueError : PySem.W.kitOne K (.ref (WP.ca mg "BadPart")) (.type "ValueError") = some true
  t_BadPicture_ValueError : PySem.W.kitOne K (.ref (WP.ca mg "BadPicture")) (.type "ValueError") = some true
  t_BadProgram_ValueError : PySem.W.kitOne K (.ref (WP.ca mg "BadProgram")) (.type "ValueError") = some true
  t_Halt_ValueError : PySem.W.kitOne K (.ref (WP.ca mg "Halt")) (.type "ValueError") = some true
  i_BadCode_BadCode : PySem.W.kitOne K (.ref (WP.ca mg "BadCode")) (.ref (WP.ca mg "BadCode")) = some true
  i_BadCode_BadData : PySem.W.kitOne K (.ref (WP.ca mg "BadCode")) (.ref (WP.ca mg "BadData")) = some false
  i_BadCode_BadDecimal : PySem.W.kitOne K (.ref (WP.ca mg "BadCode")) (.ref (WP.ca mg "BadDecimal")) = some false
  i_BadCode_BadJob : PySem.W.kitOne K (.ref (WP.ca mg "BadCode")) (.ref (WP.ca mg "BadJob")) = some false
  i_BadCode_BadPart : PySem.W.kitOne K (.ref (WP.ca mg "BadCode")) (.ref (WP.ca mg "BadPart")) = some false
  i_BadCode_BadPicture : PySem.W.kitOne K (.ref (WP.ca mg "BadCode")) (.ref (WP.ca mg "BadPicture")) = some false
  i_BadCode_BadProgram : PySem.W.kitOne K (.ref (WP.ca mg "BadCode")) (.ref (WP.ca mg "BadProgram")) = some false
  i_BadCode_CardError : PySem.W.kitOne K (.ref (WP.ca mg "BadCode")) (.ref (WP.ca mg "CardError")) = some true
  i_BadCode_Halt : PySem.W.kitOne K (.ref (WP.ca mg "BadCode")) (.ref (WP.ca mg "Halt")) = some false
  i_BadData_BadCode : PySem.W.kitOne K (.ref (WP.ca mg "BadData")) (.ref (WP.ca mg "BadCode")) = some false
  i_BadData_BadData : PySem.W.kitOne K (.ref (WP.ca mg "BadData")) (.ref (WP.ca mg "BadData")) = some true
  i_BadData_BadDecimal : PySem.W.kitOne K (.ref (WP.ca mg "BadData")) (.ref (WP.ca mg "BadDecimal")) = some false
  i_BadData_BadJob : PySem.W.kitOne K (.ref (WP.ca mg "BadData")) (.ref (WP.ca mg "BadJob")) = some false
  i_BadData_BadPart : PySem.W.kitOne K (.ref (WP.ca mg "BadData")) (.ref (WP.ca mg "BadPart")) = some false
  i_BadData_BadPicture : PySem.W.kitOne K (.ref (WP.ca mg "BadData")) (.ref (WP.ca mg "BadPicture")) = some false
  i_BadData_BadProgram : PySem.W.kitOne K (.ref (WP.ca mg "BadData")) (.ref (WP.ca mg "BadProgram")) = some false
  i_BadData_CardError : PySem.W.kitOne K (.ref (WP.ca mg "BadData")) (.ref (WP.ca mg "CardError")) = some true
  i_BadData_Halt : PySem.W.kitOne K (.ref (WP.ca mg "BadData")) (.ref (WP.ca mg "Halt")) = some false
  i_BadDecimal_BadCode : PySem.W.kitOne K (.ref (WP.ca mg "BadDecimal")) (.ref (WP.ca mg "BadCode")) = some false
  i_BadDecimal_BadData : PySem.W.kitOne K (.ref (WP.ca mg "BadDecimal")) (.ref (WP.ca mg "BadData")) = some false
  i_BadDecimal_BadDecimal : PySem.W.kitOne K (.ref (WP.ca mg "BadDecimal")) (.ref (WP.ca mg "BadDecimal")) = some true
  i_BadDecimal_BadJob : PySem.W.kitOne K (.ref (WP.ca mg "BadDecimal")) (.ref (WP.ca mg "BadJob")) = some false
  i_BadDecimal_BadPart : PySem.W.kitOne K (.ref (WP.ca mg "BadDecimal")) (.ref (WP.ca mg "BadPart")) = some false
  i_BadDecimal_BadPicture : PySem.W.kitOne K (.ref (WP.ca mg "BadDecimal")) (.ref (WP.ca mg "BadPicture")) = some false
  i_BadDecimal_BadProgram : PySem.W.kitOne K (.ref (WP.ca mg "BadDecimal")) (.ref (WP.ca mg "BadProgram")) = some false
  i_BadDecimal_CardError : PySem.W.kitOne K (.ref (WP.ca mg "BadDecimal")) (.ref (WP.ca mg "CardError")) = some true
  i_BadDecimal_Halt : PySem.W.kitOne K (.ref (WP.ca mg "BadDecimal")) (.ref (WP.ca mg "Halt")) = some false
  i_BadJob_BadCode : PySem.W.kitOne K (.ref (WP.ca mg "BadJob")) (.ref (WP.ca mg "BadCode")) = some false
  i_BadJob_BadData : PySem.W.kitOne K (.ref (WP.ca mg "BadJob")) (.ref (WP.ca mg "BadData")) = some false
  i_BadJob_BadDecimal : PySem.W.kitOne K (.ref (WP.ca mg "BadJob")) (.ref (WP.ca mg "BadDecimal")) = some false
  i_BadJob_BadJob : PySem.W.kitOne K (.ref (WP.ca mg "BadJob")) (.ref (WP.ca mg "BadJob")) = some true
  i_BadJob_BadPart : PySem.W.kitOne K (.ref (WP.ca mg "BadJob")) (.ref (WP.ca mg "BadPart")) = some false
  i_BadJob_BadPicture : PySem.W.kitOne K (.ref (WP.ca mg "BadJob")) (.ref (WP.ca mg "BadPicture")) = some false
  i_BadJob_BadProgram : PySem.W.kitOne K (.ref (WP.ca mg "BadJob")) (.ref (WP.ca mg "BadProgram")) = some false
  i_BadJob_CardError : PySem.W.kitOne K (.ref (WP.ca mg "BadJob")) (.ref (WP.ca mg "CardError")) = some true
  i_BadJob_Halt : PySem.W.kitOne K (.ref (WP.ca mg "BadJob")) (.ref (WP.ca mg "Halt")) = some false
  i_BadPart_BadCode : PySem.W.kitOne K (.ref (WP.ca mg "BadPart")) (.ref (WP.ca mg "BadCode")) = some false
  i_BadPart_BadData : PySem.W.kitOne K (.ref (WP.ca mg "BadPart")) (.ref (WP.ca mg "BadData")) = some false
  i_BadPart_BadDecimal : PySem.W.kitOne K (.ref (WP.ca mg "BadPart")) (.ref (WP.ca mg "BadDecimal")) = some false
  i_BadPart_BadJob : PySem.W.kitOne K (.ref (WP.ca mg "BadPart")) (.ref (WP.ca mg "BadJob")) = some false
  i_BadPart_BadPart : PySem.W.kitOne K (.ref (WP.ca mg "BadPart")) (.ref (WP.ca mg "BadPart")) = some true
  i_BadPart_BadPicture : PySem.W.kitOne K (.ref (WP.ca mg "BadPart")) (.ref (WP.ca mg "BadPicture")) = some false
  i_BadPart_BadProgram : PySem.W.kitOne K (.ref (WP.ca mg "BadPart")) (.ref (WP.ca mg "BadProgram")) = some false
  i_BadPart_CardError : PySem.W.kitOne K (.ref (WP.ca mg "BadPart")) (.ref (WP.ca mg "CardError")) = some true
  i_BadPart_Halt : PySem.W.kitOne K (.ref (WP.ca mg "BadPart")) (.ref (WP.ca mg "Halt")) = some false
  i_BadPicture_BadCode : PySem.W.kitOne K (.ref (WP.ca mg "BadPicture")) (.ref (WP.ca mg "BadCode")) = some false
  i_BadPicture_BadData : PySem.W.kitOne K (.ref (WP.ca mg "BadPicture")) (.ref (WP.ca mg "BadData")) = some false
  i_BadPicture_BadDecimal : PySem.W.kitOne K (.ref (WP.ca mg "BadPicture")) (.ref (WP.ca mg "BadDecimal")) = some false
  i_BadPicture_BadJob : PySem.W.kitOne K (.ref (WP.ca mg "BadPicture")) (.ref (WP.ca mg "BadJob")) = some false
  i_BadPicture_BadPart : PySem.W.kitOne K (.ref (WP.ca mg "BadPicture")) (.ref (WP.ca mg "BadPart")) = some false
  i_BadPicture_BadPicture : PySem.W.kitOne K (.ref (WP.ca mg "BadPicture")) (.ref (WP.ca mg "BadPicture")) = some true
  i_BadPicture_BadProgram : PySem.W.kitOne K (.ref (WP.ca mg "BadPicture")) (.ref (WP.ca mg "BadProgram")) = some false
  i_BadPicture_CardError : PySem.W.kitOne K (.ref (WP.ca mg "BadPicture")) (.ref (WP.ca mg "CardError")) = some true
  i_BadPicture_Halt : PySem.W.kitOne K (.ref (WP.ca mg "BadPicture")) (.ref (WP.ca mg "Halt")) = some false
  i_BadProgram_BadCode : PySem.W.kitOne K (.ref (WP.ca mg "BadProgram")) (.ref (WP.ca mg "BadCode")) = some false
  i_BadProgram_BadData : PySem.W.kitOne K (.ref (WP.ca mg "BadProgram")) (.ref (WP.ca mg "BadData")) = some false
  i_BadProgram_BadDecimal : PySem.W.kitOne K (.ref (WP.ca mg "BadProgram")) (.ref (WP.ca mg "BadDecimal")) = some false
  i_BadProgram_BadJob : PySem.W.kitOne K (.ref (WP.ca mg "BadProgram")) (.ref (WP.ca mg "BadJob")) = some false
  i_BadProgram_BadPart : PySem.W.kitOne K (.ref (WP.ca mg "BadProgram")) (.ref (WP.ca mg "BadPart")) = some false
  i_BadProgram_BadPicture : PySem.W.kitOne K (.ref (WP.ca mg "BadProgram")) (.ref (WP.ca mg "BadPicture")) = some false
  i_BadProgram_BadProgram : PySem.W.kitOne K (.ref (WP.ca mg "BadProgram")) (.ref (WP.ca mg "BadProgram")) = some true
  i_BadProgram_CardError : PySem.W.kitOne K (.ref (WP.ca mg "BadProgram")) (.ref (WP.ca mg "CardError")) = some true
  i_BadProgram_Halt : PySem.W.kitOne K (.ref (WP.ca mg "BadProgram")) (.ref (WP.ca mg "Halt")) = some false
  i_Halt_BadCode : PySem.W.kitOne K (.ref (WP.ca mg "Halt")) (.ref (WP.ca mg "BadCode")) = some false
  i_Halt_BadData : PySem.W.kitOne K (.ref (WP.ca mg "Halt")) (.ref (WP.ca mg "BadData")) = some false
  i_Halt_BadDecimal : PySem.W.kitOne K (.ref (WP.ca mg "Halt")) (.ref (WP.ca mg "BadDecimal")) = some false
  i_Halt_BadJob : PySem.W.kitOne K (.ref (WP.ca mg "Halt")) (.ref (WP.ca mg "BadJob")) = some false
  i_Halt_BadPart : PySem.W.kitOne K (.ref (WP.ca mg "Halt")) (.ref (WP.ca mg "BadPart")) = some false
  i_Halt_BadPicture : PySem.W.kitOne K (.ref (WP.ca mg "Halt")) (.ref (WP.ca mg "BadPicture")) = some false
  i_Halt_BadProgram : PySem.W.kitOne K (.ref (WP.ca mg "Halt")) (.ref (WP.ca mg "BadProgram")) = some false
  i_Halt_CardError : PySem.W.kitOne K (.ref (WP.ca mg "Halt")) (.ref (WP.ca mg "CardError")) = some true
  i_Halt_Halt : PySem.W.kitOne K (.ref (WP.ca mg "Halt")) (.ref (WP.ca mg "Halt")) = some true
abbrev s_BadData___init__ : Stmt := inClass (top 4) 0
abbrev N_BadData___init__ : List Str := ["self", "reason", "name"]
theorem sc_BadData___init__ : FnScope N_BadData___init__ ["self", "reason", "name"] (defScope s_BadData___init__) := ⟨rfl, rfl, rfl, by decide +kernel, rfl, by decide +kernel, by decide +kernel⟩
def ini2 (mg : WP.MG) (nm f g : Str) : Sp := fun vs H Q _ => ∃ (a : Addr) (x y : V), vs = [.ref a, x, y] ∧ H a = some (exo a (WP.ca mg nm) none) ∧
  ∀ (dx : Addr) (H' : Hp), H dx = none → dx ≠ a → H' a = some (exo a (WP.ca mg nm) (some dx)) → H' dx = some (exd dx [(g, y), (f, x)]) → (∀ b o, b ≠ a → b ≠ dx → H b = some o → H' b = some o) → Q .non H'
def ini1 (mg : WP.MG) (nm f : Str) : Sp := fun vs H Q _ => ∃ (a : Addr) (x : V), vs = [.ref a, x] ∧ H a = some (exo a (WP.ca mg nm) none) ∧
  ∀ (dx : Addr) (H' : Hp), H dx = none → dx ≠ a → H' a = some (exo a (WP.ca mg nm) (some dx)) → H' dx = some (exd dx [(f, x)]) → (∀ b o, b ≠ a → b ≠ dx → H b = some o → H' b = some o) → Q .non H'
theorem made2 {mg : WP.MG} {nm f g : Str} {x y : V} {H : Hp} {Q : Addr → Hp → Prop} (k : ∀ a dx H', Same H H' → H' a = some (exo a (WP.ca mg nm) (some dx)) → H' dx = some (exd dx [(g, y), (f, x)]) → Q a H') :
    [x, y].length ≤ 1000 ∧ ∀ a, H a = none → ini2 mg nm f g (.ref a :: ([x, y] ++ [])) (upd H a (exo a (WP.ca mg nm) none)) (fun v H2 => v = .non ∧ Q a H2) (fun _ _ _ => False) := by
  refine ⟨by show 2 ≤ 1000; decide, fun a ha => ⟨a, x, y, rfl, upd_same, fun dx H' n1 n2 h1 h2 keep => ⟨rfl, k a dx H' (fun b o e => ?_) h1 h2⟩⟩⟩
  rw [upd_ne n2] at n1
  have ba : b ≠ a := fun z => by rw [z, ha] at e; cases e
  exact keep b o ba (fun z => by rw [z, n1] at e; cases e) (by rw [upd_ne ba]; exact e)
theorem made1 {mg : WP.MG} {nm f : Str} {x : V} {H : Hp} {Q : Addr → Hp → Prop} (k : ∀ a dx H', Same H H' → H' a = some (exo a (WP.ca mg nm) (some dx)) → H' dx = some (exd dx [(f, x)]) → Q a H') :
    [x].length ≤ 1000 ∧ ∀ a, H a = none → ini1 mg nm f (.ref a :: ([x] ++ [])) (upd H a (exo a (WP.ca mg nm) none)) (fun v H2 => v = .non ∧ Q a H2) (fun _ _ _ => False) := by
  refine ⟨by show 1 ≤ 1000; decide, fun a ha => ⟨a, x, rfl, upd_same, fun dx H' n1 n2 h1 h2 keep => ⟨rfl, k a dx H' (fun b o e => ?_) h1 h2⟩⟩⟩
  rw [upd_ne n2] at n1
  have ba : b ≠ a := fun z => by rw [z, ha] at e; cases e
  exact keep b o ba (fun z => by rw [z, n1] at e; cases e) (by rw [upd_ne ba]; exact e)
def sp_BadData___init__ (K : PySem.W.Frag) (mg : WP.MG) : Sp := ini2 mg "BadData" "reason" "name"
section
variable {P : Program} {w : World} {K : PySem.W.Frag} {mg : Str → Option Value} {base : Heap}
theorem ok_BadData___init__ {f : Addr} {fd : FuncData} (F : Fun K "__init__" "BadData.__init__" s_BadData___init__ f fd) (B : Blt w K mg)  : FnOk P w K mg base CX0 1 f fd ["self", "reason", "name"] (sp_BadData___init__ K mg) := by
  refine F.ok sc_BadData___init__ (fun vs H Q E h => ?_) (fun cdv A outer s H vs Q E hr h => ?_)
  · first | (obtain ⟨_, rfl, _⟩ := h; rfl) | (obtain ⟨_, _, rfl, _⟩ := h; rfl) | (obtain ⟨_, _, _, rfl, _⟩ := h; rfl) | (obtain ⟨_, _, _, _, rfl, _⟩ := h; rfl) | (obtain ⟨_, _, _, _, _, rfl, _⟩ := h; rfl) | (obtain ⟨_, _, _, _, _, _, rfl, _⟩ := h; rfl) | (obtain ⟨_, _, _, _, _, _, _, rfl, _⟩ := h; rfl) | (obtain ⟨_, _, _, _, _, _, _, _, rfl, _⟩ := h; rfl) | (obtain ⟨rfl, _⟩ := h; rfl)
  · obtain ⟨a, x, y, rfl, ha, k⟩ := h
    refine ⟨_, (pss_cons (ps_ost (pv 0) (pv 1))
      (pss_one (ps_ost (pv 0) (pv 2)))), ?_⟩
    k_updF
    refine ⟨a, _, rfl, B.xi_BadData.o, B.xi_BadData.n _ (by decide +kernel), .inl ⟨ha, fun dx n1 n2 => ?_⟩⟩
    k_updF
    refine ⟨a, _, rfl, B.xi_BadData.o, B.xi_BadData.n _ (by decide +kernel), .inr ⟨dx, [("reason", x)], upd_same, by rw [upd_ne n2, upd_same], by show 1 ≤ 900; decide, ?_⟩⟩
    refine k dx _ n1 n2 (by rw [upd_ne (Ne.symm n2), upd_same]) upd_same (fun b o h1 h2 e => by rw [upd_ne h2, upd_ne h1, upd_ne h2]; exact e)
end
abbrev s_BadPart___init__ : Stmt := inClass (top 5) 0
abbrev N_BadPart___init__ : List Str := ["self", "reason", "name"]
theorem sc_BadPart___init__ : FnScope N_BadPart___init__ ["self", "reason", "name"] (defScope s_BadPart___init__) := ⟨rfl, rfl, rfl, by decide +kernel, rfl, by decide +kernel, by decide +kernel⟩
def sp_BadPart___init__ (K : PySem.W.Frag) (mg : WP.MG) : Sp := ini2 mg "BadPart" "reason" "name"
section
variable {P : Program} {w : World} {K : PySem.W.Frag} {mg : Str → Option Value} {base : Heap}
theorem ok_BadPart___init__ {f : Addr} {fd : FuncData} (F : Fun K "__init__" "BadPart.__init__" s_BadPart___init__ f fd) (B : Blt w K mg)  : FnOk P w K mg base CX0 1 f fd ["self", "reason", "name"] (sp_BadPart___init__ K mg) := by
  refine F.ok sc_BadPart___init__ (fun vs H Q E h => ?_) (fun cdv A outer s H vs Q E hr h => ?_)
  · first | (obtain ⟨_, rfl, _⟩ := h; rfl) | (obtain ⟨_, _, rfl, _⟩ := h; rfl) | (obtain ⟨_, _, _, rfl, _⟩ := h; rfl) | (obtain ⟨_, _, _, _, rfl, _⟩ := h; rfl) | (obtain ⟨_, _, _, _, _, rfl, _⟩ := h; rfl) | (obtain ⟨_, _, _, _, _, _, rfl, _⟩ := h; rfl) | (obtain ⟨_, _, _, _, _, _, _, rfl, _⟩ := h; rfl) | (obtain ⟨_, _, _, _, _, _, _, _, rfl, _⟩ := h; rfl) | (obtain ⟨rfl, _⟩ := h; rfl)
  · obtain ⟨a, x, y, rfl, ha, k⟩ := h
    refine ⟨_, (pss_cons (ps_ost (pv 0) (pv 1))
      (pss_one (ps_ost (pv 0) (pv 2)))), ?_⟩
    k_updF
    refine ⟨a, _, rfl, B.xi_BadPart.o, B.xi_BadPart.n _ (by decide +kernel), .inl ⟨ha, fun dx n1 n2 => ?_⟩⟩
    k_updF
    refine ⟨a, _, rfl, B.xi_BadPart.o, B.xi_BadPart.n _ (by decide +kernel), .inr ⟨dx, [("reason", x)], upd_same, by rw [upd_ne n2, upd_same], by show 1 ≤ 900; decide, ?_⟩⟩
    refine k dx _ n1 n2 (by rw [upd_ne (Ne.symm n2), upd_same]) upd_same (fun b o h1 h2 e => by rw [upd_ne h2, upd_ne h1, upd_ne h2]; exact e)
end
abbrev s_BadProgram___init__ : Stmt := inClass (top 6) 0
abbrev N_BadProgram___init__ : List Str := ["self", "line", "reason"]
theorem sc_BadProgram___init__ : FnScope N_BadProgram___init__ ["self", "line", "reason"] (defScope s_BadProgram___init__) := ⟨rfl, rfl, rfl, by decide +kernel, rfl, by decide +kernel, by decide +kernel⟩
def sp_BadProgram___init__ (K : PySem.W.Frag) (mg : WP.MG) : Sp := ini2 mg "BadProgram" "line" "reason"
section
variable {P : Program} {w : World} {K : PySem.W.Frag} {mg : Str → Option Value} {base : Heap}
theorem ok_BadProgram___init__ {f : Addr} {fd : FuncData} (F : Fun K "__init__" "BadProgram.__init__" s_BadProgram___init__ f fd) (B : Blt w K mg)  : FnOk P w K mg base CX0 1 f fd ["self", "line", "reason"] (sp_BadProgram___init__ K mg) := by
  refine F.ok sc_BadProgram___init__ (fun vs H Q E h => ?_) (fun cdv A outer s H vs Q E hr h => ?_)
  · first | (obtain ⟨_, rfl, _⟩ := h; rfl) | (obtain ⟨_, _, rfl, _⟩ := h; rfl) | (obtain ⟨_, _, _, rfl, _⟩ := h; rfl) | (obtain ⟨_, _, _, _, rfl, _⟩ := h; rfl) | (obtain ⟨_, _, _, _, _, rfl, _⟩ := h; rfl) | (obtain ⟨_, _, _, _, _, _, rfl, _⟩ := h; rfl) | (obtain ⟨_, _, _, _, _, _, _, rfl, _⟩ := h; rfl) | (obtain ⟨_, _, _, _, _, _, _, _, rfl, _⟩ := h; rfl) | (obtain ⟨rfl, _⟩ := h; rfl)
  · obtain ⟨a, x, y, rfl, ha, k⟩ := h
    refine ⟨_, (pss_cons (ps_ost (pv 0) (pv 1))
      (pss_one (ps_ost (pv 0) (pv 2)))), ?_⟩
    k_updF
    refine ⟨a, _, rfl, B.xi_BadProgram.o, B.xi_BadProgram.n _ (by decide +kernel), .inl ⟨ha, fun dx n1 n2 => ?_⟩⟩
    k_updF
    refine ⟨a, _, rfl, B.xi_BadProgram.o, B.xi_BadProgram.n _ (by decide +kernel), .inr ⟨dx, [("line", x)], upd_same, by rw [upd_ne n2, upd_same], by show 1 ≤ 900; decide, ?_⟩⟩
    refine k dx _ n1 n2 (by rw [upd_ne (Ne.symm n2), upd_same]) upd_same (fun b o h1 h2 e => by rw [upd_ne h2, upd_ne h1, upd_ne h2]; exact e)
end
abbrev s_BadCode___init__ : Stmt := inClass (top 7) 0
abbrev N_BadCode___init__ : List Str := ["self", "place", "reason"]
theorem sc_BadCode___init__ : FnScope N_BadCode___init__ ["self", "place", "reason"] (defScope s_BadCode___init__) := ⟨rfl, rfl, rfl, by decide +kernel, rfl, by decide +kernel, by decide +kernel⟩
def sp_BadCode___init__ (K : PySem.W.Frag) (mg : WP.MG) : Sp := ini2 mg "BadCode" "place" "reason"
section
variable {P : Program} {w : World} {K : PySem.W.Frag} {mg : Str → Option Value} {base : Heap}
theorem ok_BadCode___init__ {f : Addr} {fd : FuncData} (F : Fun K "__init__" "BadCode.__init__" s_BadCode___init__ f fd) (B : Blt w K mg)  : FnOk P w K mg base CX0 1 f fd ["self", "place", "reason"] (sp_BadCode___init__ K mg) := by
  refine F.ok sc_BadCode___init__ (fun vs H Q E h => ?_) (fun cdv A outer s H vs Q E hr h => ?_)
  · first | (obtain ⟨_, rfl, _⟩ := h; rfl) | (obtain ⟨_, _, rfl, _⟩ := h; rfl) | (obtain ⟨_, _, _, rfl, _⟩ := h; rfl) | (obtain ⟨_, _, _, _, rfl, _⟩ := h; rfl) | (obtain ⟨_, _, _, _, _, rfl, _⟩ := h; rfl) | (obtain ⟨_, _, _, _, _, _, rfl, _⟩ := h; rfl) | (obtain ⟨_, _, _, _, _, _, _, rfl, _⟩ := h; rfl) | (obtain ⟨_, _, _, _, _, _, _, _, rfl, _⟩ := h; rfl) | (obtain ⟨rfl, _⟩ := h; rfl)
  · obtain ⟨a, x, y, rfl, ha, k⟩ := h
    refine ⟨_, (pss_cons (ps_ost (pv 0) (pv 1))
      (pss_one (ps_ost (pv 0) (pv 2)))), ?_⟩
    k_updF
    refine ⟨a, _, rfl, B.xi_BadCode.o, B.xi_BadCode.n _ (by decide +kernel), .inl ⟨ha, fun dx n1 n2 => ?_⟩⟩
    k_updF
    refine ⟨a, _, rfl, B.xi_BadCode.o, B.xi_BadCode.n _ (by decide +kernel), .inr ⟨dx, [("place", x)], upd_same, by rw [upd_ne n2, upd_same], by show 1 ≤ 900; decide, ?_⟩⟩
    refine k dx _ n1 n2 (by rw [upd_ne (Ne.symm n2), upd_same]) upd_same (fun b o h1 h2 e => by rw [upd_ne h2, upd_ne h1, upd_ne h2]; exact e)
end
abbrev s_Halt___init__ : Stmt := inClass (top 8) 0
abbrev N_Halt___init__ : List Str := ["self", "end"]
theorem sc_Halt___init__ : FnScope N_Halt___init__ ["self", "end"] (defScope s_Halt___init__) := ⟨rfl, rfl, rfl, by decide +kernel, rfl, by decide +kernel, by decide +kernel⟩
def sp_Halt___init__ (K : PySem.W.Frag) (mg : WP.MG) : Sp := ini1 mg "Halt" "end"
section
variable {P : Program} {w : World} {K : PySem.W.Frag} {mg : Str → Option Value} {base : Heap}
theorem ok_Halt___init__ {f : Addr} {fd : FuncData} (F : Fun K "__init__" "Halt.__init__" s_Halt___init__ f fd) (B : Blt w K mg)  : FnOk P w K mg base CX0 1 f fd ["self", "end"] (sp_Halt___init__ K mg) := by
  refine F.ok sc_Halt___init__ (fun vs H Q E h => ?_) (fun cdv A outer s H vs Q E hr h => ?_)
  · first | (obtain ⟨_, rfl, _⟩ := h; rfl) | (obtain ⟨_, _, rfl, _⟩ := h; rfl) | (obtain ⟨_, _, _, rfl, _⟩ := h; rfl) | (obtain ⟨_, _, _, _, rfl, _⟩ := h; rfl) | (obtain ⟨_, _, _, _, _, rfl, _⟩ := h; rfl) | (obtain ⟨_, _, _, _, _, _, rfl, _⟩ := h; rfl) | (obtain ⟨_, _, _, _, _, _, _, rfl, _⟩ := h; rfl) | (obtain ⟨_, _, _, _, _, _, _, _, rfl, _⟩ := h; rfl) | (obtain ⟨rfl, _⟩ := h; rfl)
  · obtain ⟨a, x, rfl, ha, k⟩ := h
    refine ⟨_, (pss_one (ps_ost (pv 0) (pv 1))), ?_⟩
    k_updF
    refine ⟨a, _, rfl, B.xi_Halt.o, B.xi_Halt.n _ (by decide +kernel), .inl ⟨ha, fun dx n1 n2 => ?_⟩⟩
    refine k dx _ n1 n2 upd_same (by rw [upd_ne n2, upd_same]) (fun b o h1 h2 e => by rw [upd_ne h1, upd_ne h2]; exact e)
end
abbrev s_BadJob___init__ : Stmt := inClass (top 9) 0
abbrev N_BadJob___init__ : List Str := ["self", "reason", "name"]
theorem sc_BadJob___init__ : FnScope N_BadJob___init__ ["self", "reason"] (defScope s_BadJob___init__) := ⟨rfl, rfl, rfl, by decide +kernel, rfl, by decide +kernel, by decide +kernel⟩
def sp_BadJob___init__ (K : PySem.W.Frag) (mg : WP.MG) : Sp := ini1 mg "BadJob" "reason"
section
variable {P : Program} {w : World} {K : PySem.W.Frag} {mg : Str → Option Value} {base : Heap}
theorem ok_BadJob___init__ {f : Addr} {fd : FuncData} (F : Fun K "__init__" "BadJob.__init__" s_BadJob___init__ f fd) (B : Blt w K mg)  : FnOk P w K mg base CX0 1 f fd ["self", "reason"] (sp_BadJob___init__ K mg) := by
  refine F.ok sc_BadJob___init__ (fun vs H Q E h => ?_) (fun cdv A outer s H vs Q E hr h => ?_)
  · first | (obtain ⟨_, rfl, _⟩ := h; rfl) | (obtain ⟨_, _, rfl, _⟩ := h; rfl) | (obtain ⟨_, _, _, rfl, _⟩ := h; rfl) | (obtain ⟨_, _, _, _, rfl, _⟩ := h; rfl) | (obtain ⟨_, _, _, _, _, rfl, _⟩ := h; rfl) | (obtain ⟨_, _, _, _, _, _, rfl, _⟩ := h; rfl) | (obtain ⟨_, _, _, _, _, _, _, rfl, _⟩ := h; rfl) | (obtain ⟨_, _, _, _, _, _, _, _, rfl, _⟩ := h; rfl) | (obtain ⟨rfl, _⟩ := h; rfl)
  · obtain ⟨a, x, rfl, ha, k⟩ := h
    refine ⟨_, (pss_one (ps_ost (pv 0) (pv 1))), ?_⟩
    k_updF
    refine ⟨a, _, rfl, B.xi_BadJob.o, B.xi_BadJob.n _ (by decide +kernel), .inl ⟨ha, fun dx n1 n2 => ?_⟩⟩
    refine k dx _ n1 n2 upd_same (by rw [upd_ne n2, upd_same]) (fun b o h1 h2 e => by rw [upd_ne h1, upd_ne h2]; exact e)
end
abbrev s__law_cell : Stmt := top 24
abbrev N__law_cell : List Str := ["script", "k"]
theorem sc__law_cell : FnScope N__law_cell ["script", "k"] (defScope s__law_cell) := ⟨rfl, rfl, rfl, by decide +kernel, rfl, by decide +kernel, by decide +kernel⟩
def sp__law_cell (K : PySem.W.Frag) (mg : WP.MG) : Sp := fun vs H Q _ => ∃ (a : Addr) (ns : List Int) (k : Int), vs = [.ref a, .int k] ∧ SqL K H a (ns.map V.int) ∧ 0 ≤ k ∧ ∀ c : Int, Q (.int c) H
section
variable {P : Program} {w : World} {K : PySem.W.Frag} {mg : Str → Option Value} {base : Heap}
theorem ok__law_cell {f : Addr} {fd : FuncData} (F : Fun K "_law_cell" "_law_cell" s__law_cell f fd) (B : Blt w K mg)  : FnOk P w K mg base CX0 1 f fd ["script", "k"] (sp__law_cell K mg) := by
  refine F.ok sc__law_cell (fun vs H Q E h => ?_) (fun cdv A outer s H vs Q E hr h => ?_)
  · first | (obtain ⟨_, rfl, _⟩ := h; rfl) | (obtain ⟨_, _, rfl, _⟩ := h; rfl) | (obtain ⟨_, _, _, rfl, _⟩ := h; rfl) | (obtain ⟨_, _, _, _, rfl, _⟩ := h; rfl) | (obtain ⟨_, _, _, _, _, rfl, _⟩ := h; rfl) | (obtain ⟨_, _, _, _, _, _, rfl, _⟩ := h; rfl) | (obtain ⟨_, _, _, _, _, _, _, rfl, _⟩ := h; rfl) | (obtain ⟨_, _, _, _, _, _, _, _, rfl, _⟩ := h; rfl) | (obtain ⟨rfl, _⟩ := h; rfl)
  · obtain ⟨a, ns, i, rfl, ha, hi, k⟩ := h
    refine ⟨_, (pss_cons (ps_if (pt_cmpR op_lt (pv 1) (pe_callB WP.c_len (by rfl) B.b_len (by decide +kernel) (WP.pa_consN (pv 0) pa_nil)) (nomark _)) (pss_one (ps_ret (pe_callTy WP.c_int1 (by rfl) B.b_int (by decide +kernel) (WP.pa_consN (pe_ix ix_list (pv 0) (pv 1) (fun _ _ => rfl)) pa_nil)))) pss_nil)
      (pss_one (ps_ret pe_int))), ?_⟩
    k_updF
    refine WP.lenL ha ?_
    k_updF
    refine WP.br (fun c => ?_) (fun c => ?_)
    · k_updF
      rw [List.length_map] at c
      refine WP.ixL ha (WP.at_ints hi c) ?_
      k_updF
      exact WP.intI (k _)
    · k_updF
      exact k 0
end
abbrev s__law_kinds : Stmt := top 25
abbrev N__law_kinds : List Str := ["e", "kinds"]
theorem sc__law_kinds : FnScope N__law_kinds ["e"] (defScope s__law_kinds) := ⟨rfl, rfl, rfl, by decide +kernel, rfl, by decide +kernel, by decide +kernel⟩
theorem _root_.WP.Trk.same {H H' : Hp} {a D : Addr} (t : WP.Trk H a D) (e : Same H H') : WP.Trk H' a D := by
  rcases t with h | ⟨d, fs, h1, h2⟩
  · exact .inl (e _ _ h)
  · exact .inr ⟨d, fs, e _ _ h1, e _ _ h2⟩
theorem catLL {H : Hp} {Q : VK} {p b : Addr} {xs ys : List V} (h : H p = some (.lst xs)) (h2 : H b = some (.lst ys)) (hz : xs.length + ys.length ≤ 1000000) (q : ∀ a, H a = none → Q (.ref a) (upd H a (.lst (xs ++ ys)))) : rCat (.ref p) (.ref b) H Q :=
  ⟨p, b, xs, ys, rfl, rfl, h, h2, by rw [sizeLine_eq]; omega, q⟩
def KR (K : PySem.W.Frag) (mg : WP.MG) (D : Addr) (i : Nat) : Prop := PySem.W.kitOne K (.ref D) (.ref (WP.ca mg "BadDecimal")) = some (decide (0 = i)) ∧ PySem.W.kitOne K (.ref D) (.ref (WP.ca mg "BadPicture")) = some (decide (1 = i)) ∧ PySem.W.kitOne K (.ref D) (.ref (WP.ca mg "BadData")) = some (decide (2 = i)) ∧ PySem.W.kitOne K (.ref D) (.ref (WP.ca mg "BadPart")) = some (decide (3 = i)) ∧ PySem.W.kitOne K (.ref D) (.ref (WP.ca mg "BadProgram")) = some (decide (4 = i)) ∧ PySem.W.kitOne K (.ref D) (.ref (WP.ca mg "BadCode")) = some (decide (5 = i)) ∧ PySem.W.kitOne K (.ref D) (.ref (WP.ca mg "Halt")) = some (decide (6 = i)) ∧ PySem.W.kitOne K (.ref D) (.ref (WP.ca mg "BadJob")) = some (decide (7 = i))
def krv (i : Nat) : List V := [.bl (decide (0 = i)), .bl (decide (1 = i)), .bl (decide (2 = i)), .bl (decide (3 = i)), .bl (decide (4 = i)), .bl (decide (5 = i)), .bl (decide (6 = i)), .bl (decide (7 = i))]
theorem dpk {K : PySem.W.Frag} {H : Hp} (i : Nat) : DpAll K H (krv i) [.bool (decide (0 = i)), .bool (decide (1 = i)), .bool (decide (2 = i)), .bool (decide (3 = i)), .bool (decide (4 = i)), .bool (decide (5 = i)), .bool (decide (6 = i)), .bool (decide (7 = i))] := .cons (.bl _) (.cons (.bl _) (.cons (.bl _) (.cons (.bl _) (.cons (.bl _) (.cons (.bl _) (.cons (.bl _) (.cons (.bl _) (.nil))))))))
def sp__law_kinds (K : PySem.W.Frag) (mg : WP.MG) : Sp := fun vs H Q _ => ∃ (a D : Addr) (i : Nat), vs = [.ref a] ∧ WP.Trk H a D ∧ ExcC K D ∧ KR K mg D i ∧ ∀ (p : Addr) (H' : Hp), Same H H' → H' p = some (.lst (krv i)) → Q (.ref p) H'
section
variable {P : Program} {w : World} {K : PySem.W.Frag} {mg : Str → Option Value} {base : Heap}
theorem ok__law_kinds {f : Addr} {fd : FuncData} (F : Fun K "_law_kinds" "_law_kinds" s__law_kinds f fd) (B : Blt w K mg)  : FnOk P w K mg base CX0 1 f fd ["e"] (sp__law_kinds K mg) := by
  refine F.ok sc__law_kinds (fun vs H Q E h => ?_) (fun cdv A outer s H vs Q E hr h => ?_)
  · first | (obtain ⟨_, rfl, _⟩ := h; rfl) | (obtain ⟨_, _, rfl, _⟩ := h; rfl) | (obtain ⟨_, _, _, rfl, _⟩ := h; rfl) | (obtain ⟨_, _, _, _, rfl, _⟩ := h; rfl) | (obtain ⟨_, _, _, _, _, rfl, _⟩ := h; rfl) | (obtain ⟨_, _, _, _, _, _, rfl, _⟩ := h; rfl) | (obtain ⟨_, _, _, _, _, _, _, rfl, _⟩ := h; rfl) | (obtain ⟨_, _, _, _, _, _, _, _, rfl, _⟩ := h; rfl) | (obtain ⟨rfl, _⟩ := h; rfl)
  · obtain ⟨a, D, i, rfl, T, c, ⟨r0, r1, r2, r3, r4, r5, r6, r7⟩, k⟩ := h
    refine ⟨_, (pss_cons (ps_set (i := 1) sc__law_kinds.nd rfl (Or.inl rfl) (pe_lst (WP.pa_consN (pe_callB WP.call_isV (by rfl) B.b_isinstance (by decide +kernel) (pa_cons (pv 0) (pa_cons (pe_glob (v := .ref (WP.ca mg "BadDecimal")) rfl B.e_BadDecimal.m rfl) pa_nil))) (WP.pa_consN (pe_callB WP.call_isV (by rfl) B.b_isinstance (by decide +kernel) (pa_cons (pv 0) (pa_cons (pe_glob (v := .ref (WP.ca mg "BadPicture")) rfl B.e_BadPicture.m rfl) pa_nil))) (WP.pa_consN (pe_callB WP.call_isV (by rfl) B.b_isinstance (by decide +kernel) (pa_cons (pv 0) (pa_cons (pe_glob (v := .ref (WP.ca mg "BadData")) rfl B.xi_BadData.m rfl) pa_nil))) (WP.pa_consN (pe_callB WP.call_isV (by rfl) B.b_isinstance (by decide +kernel) (pa_cons (pv 0) (pa_cons (pe_glob (v := .ref (WP.ca mg "BadPart")) rfl B.xi_BadPart.m rfl) pa_nil))) pa_nil))))))
      (pss_cons (ps_set (i := 1) sc__law_kinds.nd rfl (Or.inl rfl) (pe_op op_cat (pv 1) (pe_lst (WP.pa_consN (pe_callB WP.call_isV (by rfl) B.b_isinstance (by decide +kernel) (pa_cons (pv 0) (pa_cons (pe_glob (v := .ref (WP.ca mg "BadProgram")) rfl B.xi_BadProgram.m rfl) pa_nil))) (WP.pa_consN (pe_callB WP.call_isV (by rfl) B.b_isinstance (by decide +kernel) (pa_cons (pv 0) (pa_cons (pe_glob (v := .ref (WP.ca mg "BadCode")) rfl B.xi_BadCode.m rfl) pa_nil))) (WP.pa_consN (pe_callB WP.call_isV (by rfl) B.b_isinstance (by decide +kernel) (pa_cons (pv 0) (pa_cons (pe_glob (v := .ref (WP.ca mg "Halt")) rfl B.xi_Halt.m rfl) pa_nil))) (WP.pa_consN (pe_callB WP.call_isV (by rfl) B.b_isinstance (by decide +kernel) (pa_cons (pv 0) (pa_cons (pe_glob (v := .ref (WP.ca mg "BadJob")) rfl B.xi_BadJob.m rfl) pa_nil))) pa_nil)))))))
      (pss_one (ps_ret (pv 1))))), ?_⟩
    k_updF
    refine WP.isV T c r0 ?_
    k_updF
    refine WP.isV T c r1 ?_
    k_updF
    refine WP.isV T c r2 ?_
    k_updF
    refine WP.isV T c r3 ?_
    refine ⟨WP.sz (show 4 ≤ 1000000 by decide), fun p1 h1 => ?_⟩
    have e1 : Same H (upd H p1 (.lst [.bl (decide (0 = i)), .bl (decide (1 = i)), .bl (decide (2 = i)), .bl (decide (3 = i))])) := WP.same_new h1
    have g1 : (upd H p1 (.lst [.bl (decide (0 = i)), .bl (decide (1 = i)), .bl (decide (2 = i)), .bl (decide (3 = i))])) p1 = _ := upd_same
    generalize upd H p1 _ = H1 at e1 g1 ⊢
    have T := T.same e1
    k_updF
    refine WP.isV T c r4 ?_
    k_updF
    refine WP.isV T c r5 ?_
    k_updF
    refine WP.isV T c r6 ?_
    k_updF
    refine WP.isV T c r7 ?_
    refine ⟨WP.sz (show 4 ≤ 1000000 by decide), fun p2 h2 => ?_⟩
    refine catLL (WP.same_new h2 _ _ g1) upd_same (by show 4 + 4 ≤ _; decide) (fun C hC => ?_)
    k_updF
    exact k _ _ ((e1.trans (WP.same_new h2)).trans (WP.same_new hC)) upd_same
end
abbrev s_law : Stmt := top 26
abbrev N_law : List Str := ["script", "number", "word", "data", "part", "program", "code", "halt", "job", "errors", "k", "limits", "due", "j"]
theorem sc_law : FnScope N_law ["script"] (defScope s_law) := ⟨rfl, rfl, rfl, by decide +kernel, rfl, by decide +kernel, by decide +kernel⟩
theorem sh1 {w : Str} (h : w = "level" ∨ w = "" ∨ w = "size") : SeqAt.shaped (.list [.str w, .str "a", .str w, .str "b"]) = true := by
  rcases h with rfl | rfl | rfl <;> decide +kernel
theorem sh2 {w : Str} (h : w = "level" ∨ w = "" ∨ w = "size") {n : Int} : SeqAt.shaped (.list [.int n, .str w, .int n, .str w]) = true := by
  have hw : PyData.strOk w = true := by rcases h with rfl | rfl | rfl <;> decide +kernel
  simp [SeqAt.shaped, PyData.canLay0, PyData.canLayAll0, PyData.depth, PyData.depthAll, hw]
theorem sh3 {w : Str} (h : w = "level" ∨ w = "" ∨ w = "size") : SeqAt.shaped (.list [.str w, .str w]) = true := by
  rcases h with rfl | rfl | rfl <;> decide +kernel
theorem LIM {K : PySem.W.Frag} {H : Hp} : DpAll K H [.int 20, .int 18, .int 80, .int 50, .int 4000, .int 4000, .int 1000000000, .int 20, .int 60, .int 8, .int 10, .int 40000, .int 49] (([20, 18, 80, 50, 4000, 4000, 1000000000, 20, 60, 8, 10, 40000, 49] : List Int).map PyData.int) := .cons (.int _) (.cons (.int _) (.cons (.int _) (.cons (.int _) (.cons (.int _) (.cons (.int _) (.cons (.int _) (.cons (.int _) (.cons (.int _) (.cons (.int _) (.cons (.int _) (.cons (.int _) (.cons (.int _) (.nil)))))))))))))
def sp_law (K : PySem.W.Frag) : Sp := fun vs H Q _ => ∃ (a : Addr) (ns : List Int), vs = [.ref a] ∧ SqL K H a (ns.map V.int) ∧ ns.length ≤ 63 ∧ ∀ H', Q (.bl true) H'
section
variable {P : Program} {w : World} {K : PySem.W.Frag} {mg : Str → Option Value} {base : Heap}
theorem ok_law {f : Addr} {fd : FuncData} (F : Fun K "law" "law" s_law f fd) (B : Blt w K mg) (c_BadData___init__ : WP.CalleeE P w K mg base CX0 1 "BadData" ["self", "reason", "name"] (sp_BadData___init__ K mg)) (c_BadPart___init__ : WP.CalleeE P w K mg base CX0 1 "BadPart" ["self", "reason", "name"] (sp_BadPart___init__ K mg)) (c_BadProgram___init__ : WP.CalleeE P w K mg base CX0 1 "BadProgram" ["self", "line", "reason"] (sp_BadProgram___init__ K mg)) (c_BadCode___init__ : WP.CalleeE P w K mg base CX0 1 "BadCode" ["self", "place", "reason"] (sp_BadCode___init__ K mg)) (c_Halt___init__ : WP.CalleeE P w K mg base CX0 1 "Halt" ["self", "end"] (sp_Halt___init__ K mg)) (c_BadJob___init__ : WP.CalleeE P w K mg base CX0 1 "BadJob" ["self", "reason"] (sp_BadJob___init__ K mg)) (c__law_cell : WP.Callee P w K mg base CX0 1 "_law_cell" ["script", "k"] (sp__law_cell K mg)) (c__law_kinds : WP.Callee P w K mg base CX0 1 "_law_kinds" ["e"] (sp__law_kinds K mg)) : FnOk P w K mg base CX0 3 f fd ["script"] (sp_law K) := by
  refine F.ok sc_law (fun vs H Q E h => ?_) (fun cdv A outer s H vs Q E hr h => ?_)
  · first | (obtain ⟨_, rfl, _⟩ := h; rfl) | (obtain ⟨_, _, rfl, _⟩ := h; rfl) | (obtain ⟨_, _, _, rfl, _⟩ := h; rfl) | (obtain ⟨_, _, _, _, rfl, _⟩ := h; rfl) | (obtain ⟨_, _, _, _, _, rfl, _⟩ := h; rfl) | (obtain ⟨_, _, _, _, _, _, rfl, _⟩ := h; rfl) | (obtain ⟨_, _, _, _, _, _, _, rfl, _⟩ := h; rfl) | (obtain ⟨_, _, _, _, _, _, _, _, rfl, _⟩ := h; rfl) | (obtain ⟨rfl, _⟩ := h; rfl)
  · obtain ⟨a, ns, rfl, hs, hl, k⟩ := h
    refine ⟨_, (pss_cons (ps_set (i := 1) sc_law.nd rfl (Or.inl rfl) (pe_op op_mod (WP.pe_callC c__law_cell hr rfl pass0 (WP.pa_consN (pv 0) (WP.pa_consN pe_int pa_nil))) (pe_op op_pow pe_int pe_int)))
      (pss_cons (ps_set (i := 2) sc_law.nd rfl (Or.inl rfl) (pe_ix ix_list (pe_lst (WP.pa_consN pe_str (WP.pa_consN pe_str (WP.pa_consN pe_str pa_nil)))) (pe_op op_mod (WP.pe_callC c__law_cell hr rfl pass0 (WP.pa_consN (pv 0) (WP.pa_consN pe_int pa_nil))) pe_int) (fun _ _ => rfl)))
      (pss_cons (ps_set (i := 3) sc_law.nd rfl (Or.inl rfl) (WP.pe_excV B.xi_BadData c_BadData___init__ (hr.mono (by decide)) pass0 (by rfl) (WP.pa_consN (pv 2) (WP.pa_consN pe_str pa_nil))))
      (pss_cons (ps_set (i := 4) sc_law.nd rfl (Or.inl rfl) (WP.pe_excV B.xi_BadPart c_BadPart___init__ (hr.mono (by decide)) pass0 (by rfl) (WP.pa_consN (pv 2) (WP.pa_consN pe_str pa_nil))))
      (pss_cons (ps_set (i := 5) sc_law.nd rfl (Or.inl rfl) (WP.pe_excV B.xi_BadProgram c_BadProgram___init__ (hr.mono (by decide)) pass0 (by rfl) (WP.pa_consN (pv 1) (WP.pa_consN (pv 2) pa_nil))))
      (pss_cons (ps_set (i := 6) sc_law.nd rfl (Or.inl rfl) (WP.pe_excV B.xi_BadCode c_BadCode___init__ (hr.mono (by decide)) pass0 (by rfl) (WP.pa_consN (pv 1) (WP.pa_consN (pv 2) pa_nil))))
      (pss_cons (ps_set (i := 7) sc_law.nd rfl (Or.inl rfl) (WP.pe_excV B.xi_Halt c_Halt___init__ (hr.mono (by decide)) pass0 (by rfl) (WP.pa_consN (pv 2) pa_nil)))
      (pss_cons (ps_set (i := 8) sc_law.nd rfl (Or.inl rfl) (WP.pe_excV B.xi_BadJob c_BadJob___init__ (hr.mono (by decide)) pass0 (by rfl) (WP.pa_consN (pv 2) pa_nil)))
      (pss_cons (ps_set (i := 9) sc_law.nd rfl (Or.inl rfl) (pe_lst (WP.pa_consN (WP.pe_exc0V B.e_BadDecimal (by rfl)) (WP.pa_consN (WP.pe_exc0V B.e_BadPicture (by rfl)) (WP.pa_consN (pv 3) (WP.pa_consN (pv 4) (WP.pa_consN (pv 5) (WP.pa_consN (pv 6) (WP.pa_consN (pv 7) (WP.pa_consN (pv 8) pa_nil))))))))))
      (pss_cons (ps_for PassesOwn.never rfl (pi_range1 rfl B.b_range (WP.pa_consN pe_int pa_nil)) (pg_name (i := 10) sc_law.nd rfl (Or.inr rfl)) (pss_cons (ps_if (PW.pt (pw_or (pt_not (pt_val (pe_callB WP.call_isV (by rfl) B.b_isinstance (by decide +kernel) (pa_cons (pe_ix ix_list (pv 9) (pv 10) (fun _ _ => rfl)) (pa_cons (pe_glob (v := .ref (WP.ca mg "CardError")) rfl B.e_CardError.m rfl) pa_nil))))) (pw_or1 (pt_not (pt_val (pe_callB WP.call_isV (by rfl) B.b_isinstance (by decide +kernel) (pa_cons (pe_ix ix_list (pv 9) (pv 10) (fun _ _ => rfl)) (pa_cons (pe_bltn (v := .ty "ValueError") rfl B.b_ValueError (by decide +kernel) rfl) pa_nil)))))))) (pss_one (ps_ret pe_bl)) pss_nil)
      (pss_one (ps_if (pt_cmpR (op_neD hr.units) (WP.pe_callC c__law_kinds hr rfl pass0 (WP.pa_consN (pe_ix ix_list (pv 9) (pv 10) (fun _ _ => rfl)) pa_nil)) (pe_lc (own := [("j", 13)]) (g := gName 13) (tt := tYes) rfl sc_law.nd (pi_range1 rfl B.b_range (WP.pa_consN pe_int pa_nil)) (blkOk_by (own := [("j", 13)]) (N := N_law) (sc := defScope s_law) (by decide +kernel)) (fun _ _ _ _ _ => pg_name (i := 13) sc_law.nd rfl (Or.inl rfl)) (fun _ _ _ _ _ => pts_nil) (fun _ _ _ _ _ => (pe_cmpR op_eq (pv 13) (pv 10) (nomark _)))) (nomark _)) (pss_one (ps_ret pe_bl)) pss_nil))))
      (pss_cons (ps_if (pt_cmpR (op_neD hr.units) (pe_lst (WP.pa_consN (WP.pe_xv (pv 3) (by rfl)) (WP.pa_consN (WP.pe_xv (pv 3) (by rfl)) (WP.pa_consN (WP.pe_xv (pv 4) (by rfl)) (WP.pa_consN (WP.pe_xv (pv 4) (by rfl)) pa_nil))))) (pe_lst (WP.pa_consN (pv 2) (WP.pa_consN pe_str (WP.pa_consN (pv 2) (WP.pa_consN pe_str pa_nil))))) (nomark _)) (pss_one (ps_ret pe_bl)) pss_nil)
      (pss_cons (ps_if (pt_cmpR (op_neD hr.units) (pe_lst (WP.pa_consN (WP.pe_xv (pv 5) (by rfl)) (WP.pa_consN (WP.pe_xv (pv 5) (by rfl)) (WP.pa_consN (WP.pe_xv (pv 6) (by rfl)) (WP.pa_consN (WP.pe_xv (pv 6) (by rfl)) pa_nil))))) (pe_lst (WP.pa_consN (pv 1) (WP.pa_consN (pv 2) (WP.pa_consN (pv 1) (WP.pa_consN (pv 2) pa_nil))))) (nomark _)) (pss_one (ps_ret pe_bl)) pss_nil)
      (pss_cons (ps_set (i := 11) sc_law.nd rfl (Or.inl rfl) (pe_lst (WP.pa_consN (WP.pe_const (by rfl) B.c_MOST_NAME) (WP.pa_consN (WP.pe_const (by rfl) B.c_MOST_DIGITS) (WP.pa_consN (WP.pe_const (by rfl) B.c_MOST_TEXT) (WP.pa_consN (WP.pe_const (by rfl) B.c_MOST_TIMES) (WP.pa_consN (WP.pe_const (by rfl) B.c_MOST_STORAGE) (WP.pa_consN (WP.pe_const (by rfl) B.c_MOST_LINE) (WP.pa_consN (WP.pe_const (by rfl) B.c_MOST_STEPS) (WP.pa_consN (WP.pe_const (by rfl) B.c_MOST_DEPTH) pa_nil))))))))))
      (pss_cons (ps_set (i := 11) sc_law.nd rfl (Or.inl rfl) (pe_op op_cat (pv 11) (pe_lst (WP.pa_consN (WP.pe_const (by rfl) B.c_MOST_SCALE) (WP.pa_consN (WP.pe_const (by rfl) B.c_MOST_NEST) (WP.pa_consN (WP.pe_const (by rfl) B.c_MOST_CALLS) (WP.pa_consN (WP.pe_const (by rfl) B.c_MOST_PROGRAM) (WP.pa_consN (WP.pe_const (by rfl) B.c_MOST_LEVEL) pa_nil))))))))
      (pss_cons (ps_set (i := 12) sc_law.nd rfl (Or.inl rfl) (pe_lst (WP.pa_consN pe_int (WP.pa_consN pe_int (WP.pa_consN pe_int (WP.pa_consN pe_int (WP.pa_consN pe_int (WP.pa_consN pe_int (WP.pa_consN (pe_op op_pow pe_int pe_int) (WP.pa_consN pe_int (WP.pa_consN pe_int (WP.pa_consN pe_int (WP.pa_consN pe_int (WP.pa_consN pe_int (WP.pa_consN pe_int pa_nil)))))))))))))))
      (pss_one (ps_ret (pe_and (pe_cmpR (op_eqD hr.units) (pe_lst (WP.pa_consN (WP.pe_xv (pv 7) (by rfl)) (WP.pa_consN (WP.pe_xv (pv 8) (by rfl)) pa_nil))) (pe_lst (WP.pa_consN (pv 2) (WP.pa_consN (pv 2) pa_nil))) (nomark _)) (pe_one (pe_cmpR (op_eqD hr.units) (pv 11) (pv 12) (nomark _))))))))))))))))))))), ?_⟩
    k_updF
    refine ⟨a, ns, 0, rfl, hs, by decide, fun c0 => ?_⟩
    k_updF
    refine WP.iC ⟨by decide, by decide, by decide⟩ ?_
    refine WP.iC (by decide) ?_
    generalize c0 % 10 ^ (9 : Int).toNat = num
    k_updF
    refine ⟨WP.sz (show 3 ≤ 1000000 by decide), fun p0 h0 => ?_⟩
    have e0 : Same H (upd H p0 (.lst [.str "level", .str "", .str "size"])) := WP.same_new h0
    have g0 : (upd H p0 (.lst [.str "level", .str "", .str "size"])) p0 = _ := upd_same
    generalize upd H p0 _ = H0 at e0 g0 ⊢
    k_updF
    refine ⟨a, ns, 1, rfl, WP.sql e0 hs, by decide, fun c1 => ?_⟩
    k_updF
    refine WP.iC (by decide) ?_
    obtain ⟨w, hw, hw3⟩ : ∃ w : Str, atI [V.str "level", V.str "", V.str "size"] (c1 % 3) = some (.str w) ∧ (w = "level" ∨ w = "" ∨ w = "size") := by
      have h1 := Int.emod_nonneg c1 (show (3 : Int) ≠ 0 by decide)
      have h2 := Int.emod_lt_of_pos c1 (show (0 : Int) < 3 by decide)
      generalize c1 % 3 = z at h1 h2
      rcases (show z = 0 ∨ z = 1 ∨ z = 2 by omega) with rfl | rfl | rfl
      · exact ⟨_, rfl, .inl rfl⟩
      · exact ⟨_, rfl, .inr (.inl rfl)⟩
      · exact ⟨_, rfl, .inr (.inr rfl)⟩
    refine WP.ixL (SqL.of g0) hw ?_
    k_updF
    clear g0 hw
    refine made2 (mg := mg) (nm := "BadData") (f := "reason") (g := "name") (fun a1 d1 H1 s1 x1 y1 => ?_)
    k_updF
    refine made2 (mg := mg) (nm := "BadPart") (f := "reason") (g := "name") (fun a2 d2 H2 s2 x2 y2 => ?_)
    k_updF
    refine made2 (mg := mg) (nm := "BadProgram") (f := "line") (g := "reason") (fun a3 d3 H3 s3 x3 y3 => ?_)
    k_updF
    refine made2 (mg := mg) (nm := "BadCode") (f := "place") (g := "reason") (fun a4 d4 H4 s4 x4 y4 => ?_)
    k_updF
    refine made1 (mg := mg) (nm := "Halt") (f := "end") (fun a5 d5 H5 s5 x5 y5 => ?_)
    k_updF
    refine made1 (mg := mg) (nm := "BadJob") (f := "reason") (fun a6 d6 H6 s6 x6 y6 => ?_)
    k_updF
    refine fun a7 n7 => ?_
    generalize hG : upd H6 a7 _ = H7
    have s7 : Same H6 H7 := hG ▸ WP.same_new n7
    have x7 : H7 a7 = some (ExO (.ref (WP.ca mg "BadDecimal")) a7) := by rw [← hG]; exact upd_same
    clear hG
    k_updF
    refine fun a8 n8 => ?_
    generalize hG : upd H7 a8 _ = H8
    have s8 : Same H7 H8 := hG ▸ WP.same_new n8
    have x8 : H8 a8 = some (ExO (.ref (WP.ca mg "BadPicture")) a8) := by rw [← hG]; exact upd_same
    clear hG
    k_updF
    refine ⟨WP.sz (show 8 ≤ 1000000 by decide), fun p h9 => ?_⟩
    generalize hG : upd H8 p _ = H9
    have s9 : Same H8 H9 := hG ▸ WP.same_new h9
    have x9 : H9 p = some (.lst [.ref a7, .ref a8, .ref a1, .ref a2, .ref a3, .ref a4, .ref a5, .ref a6]) := by rw [← hG]; exact upd_same
    clear hG
    have t8 := s8.trans s9
    have t7 := s7.trans t8
    have t6 := t7
    have t5 := s6.trans t6
    have t4 := s5.trans t5
    have t3 := s4.trans t4
    have t2 := s3.trans t3
    have t1 := s2.trans t2
    have x1 := t1 _ _ x1
    have y1 := t1 _ _ y1
    have x2 := t2 _ _ x2
    have y2 := t2 _ _ y2
    have x3 := t3 _ _ x3
    have y3 := t3 _ _ y3
    have x4 := t4 _ _ x4
    have y4 := t4 _ _ y4
    have x5 := t5 _ _ x5
    have y5 := t5 _ _ y5
    have x6 := t6 _ _ x6
    have y6 := t6 _ _ y6
    have x7 := t8 _ _ x7
    have x8 := s9 _ _ x8
    clear s1 s2 s3 s4 s5 s6 s7 s8 s9 t1 t2 t3 t4 t5 t6 t7 t8 n7 n8 h9 e0 hs hl ns
    k_updF
    have HF : ∀ i < 8, ∃ x D, atI [V.ref a7, .ref a8, .ref a1, .ref a2, .ref a3, .ref a4, .ref a5, .ref a6] (i : Nat) = some (.ref x) ∧ WP.Trk H9 x D ∧ ExcC K D ∧ PySem.W.kitOne K (.ref D) (.ref (WP.ca mg "CardError")) = some true ∧ PySem.W.kitOne K (.ref D) (.type "ValueError") = some true ∧ KR K mg D i := by
      intro i hi
      rcases (show i = 0 ∨ i = 1 ∨ i = 2 ∨ i = 3 ∨ i = 4 ∨ i = 5 ∨ i = 6 ∨ i = 7 by omega) with rfl | rfl | rfl | rfl | rfl | rfl | rfl | rfl
      · exact ⟨_, _, rfl, .inl x7, B.e_BadDecimal.a.c, B.i_BadDecimal_CardError, B.t_BadDecimal_ValueError, B.i_BadDecimal_BadDecimal, B.i_BadDecimal_BadPicture, B.i_BadDecimal_BadData, B.i_BadDecimal_BadPart, B.i_BadDecimal_BadProgram, B.i_BadDecimal_BadCode, B.i_BadDecimal_Halt, B.i_BadDecimal_BadJob⟩
      · exact ⟨_, _, rfl, .inl x8, B.e_BadPicture.a.c, B.i_BadPicture_CardError, B.t_BadPicture_ValueError, B.i_BadPicture_BadDecimal, B.i_BadPicture_BadPicture, B.i_BadPicture_BadData, B.i_BadPicture_BadPart, B.i_BadPicture_BadProgram, B.i_BadPicture_BadCode, B.i_BadPicture_Halt, B.i_BadPicture_BadJob⟩
      · exact ⟨_, _, rfl, .inr ⟨_, _, x1, y1⟩, B.xi_BadData.c, B.i_BadData_CardError, B.t_BadData_ValueError, B.i_BadData_BadDecimal, B.i_BadData_BadPicture, B.i_BadData_BadData, B.i_BadData_BadPart, B.i_BadData_BadProgram, B.i_BadData_BadCode, B.i_BadData_Halt, B.i_BadData_BadJob⟩
      · exact ⟨_, _, rfl, .inr ⟨_, _, x2, y2⟩, B.xi_BadPart.c, B.i_BadPart_CardError, B.t_BadPart_ValueError, B.i_BadPart_BadDecimal, B.i_BadPart_BadPicture, B.i_BadPart_BadData, B.i_BadPart_BadPart, B.i_BadPart_BadProgram, B.i_BadPart_BadCode, B.i_BadPart_Halt, B.i_BadPart_BadJob⟩
      · exact ⟨_, _, rfl, .inr ⟨_, _, x3, y3⟩, B.xi_BadProgram.c, B.i_BadProgram_CardError, B.t_BadProgram_ValueError, B.i_BadProgram_BadDecimal, B.i_BadProgram_BadPicture, B.i_BadProgram_BadData, B.i_BadProgram_BadPart, B.i_BadProgram_BadProgram, B.i_BadProgram_BadCode, B.i_BadProgram_Halt, B.i_BadProgram_BadJob⟩
      · exact ⟨_, _, rfl, .inr ⟨_, _, x4, y4⟩, B.xi_BadCode.c, B.i_BadCode_CardError, B.t_BadCode_ValueError, B.i_BadCode_BadDecimal, B.i_BadCode_BadPicture, B.i_BadCode_BadData, B.i_BadCode_BadPart, B.i_BadCode_BadProgram, B.i_BadCode_BadCode, B.i_BadCode_Halt, B.i_BadCode_BadJob⟩
      · exact ⟨_, _, rfl, .inr ⟨_, _, x5, y5⟩, B.xi_Halt.c, B.i_Halt_CardError, B.t_Halt_ValueError, B.i_Halt_BadDecimal, B.i_Halt_BadPicture, B.i_Halt_BadData, B.i_Halt_BadPart, B.i_Halt_BadProgram, B.i_Halt_BadCode, B.i_Halt_Halt, B.i_Halt_BadJob⟩
      · exact ⟨_, _, rfl, .inr ⟨_, _, x6, y6⟩, B.xi_BadJob.c, B.i_BadJob_CardError, B.t_BadJob_ValueError, B.i_BadJob_BadDecimal, B.i_BadJob_BadPicture, B.i_BadJob_BadData, B.i_BadJob_BadPart, B.i_BadJob_BadProgram, B.i_BadJob_BadCode, B.i_BadJob_Halt, B.i_BadJob_BadJob⟩
    refine ⟨_, rfl, by decide, by decide, for_range (lo := 0) (n := _) (fun i σ' H' => Same H9 H' ∧ ∃ z z2, σ' = [some (.ref a), some (.int num), some (.str w), some (.ref a1), some (.ref a2), some (.ref a3), some (.ref a4), some (.ref a5), some (.ref a6), some (.ref p), z, none, none, z2]) ⟨.refl _, _, _, rfl⟩ ?_ ?_⟩
    · rintro i σ' H' hi ⟨e, z, z2, rfl⟩
      rw [Int.zero_add]
      obtain ⟨x, D, hx, T, c, q1, q2, kr⟩ := HF i hi
      have T := T.same e
      have hp := e _ _ x9
      k_updF
      refine WP.ixL (SqL.of hp) hx ?_
      k_updF
      refine WP.isV T c q1 ?_
      refine ⟨true, rfl, ?_⟩
      rw [if_neg (show ¬ (!true) = true by decide)]
      k_updF
      refine WP.ixL (SqL.of hp) hx ?_
      k_updF
      refine WP.isVT T c q2 ?_
      refine ⟨true, rfl, ?_⟩
      rw [if_neg (show ¬ (!true) = true by decide)]
      k_updF
      refine WP.ixL (SqL.of hp) hx ?_
      k_updF
      refine ⟨x, D, i, rfl, T, c, kr, fun P2 H2 s2 hP => ?_⟩
      k_updF
      refine ⟨_, rfl, by decide, by decide, fun D hD => lc_range (lo := 0) (n := _) (fun j Hx => Same H2 Hx ∧ Hx D = some (.lst ((List.range j).map fun v => V.bl (decide (v = i))))) ⟨WP.same_new hD, upd_same⟩ ?_ ?_⟩
      · rintro j Hx hj ⟨e4, hDx⟩
        rw [Int.zero_add]
        k_updF
        refine ⟨rfl, ?_⟩
        refine WP.yes ?_
        k_updF
        refine ⟨_, hDx, by rw [List.length_map, List.length_range, sizeLine_eq]; have : j < 8 := hj; omega, WP.same_mut e4 hD, ?_⟩
        rw [upd_same, List.range_succ, List.map_append, show decide ((j : Int) = (i : Int)) = decide (j = i) from by
          by_cases h : j = i
          · rw [decide_eq_true h, decide_eq_true (by omega)]
          · rw [decide_eq_false h, decide_eq_false (by omega)]]
        rfl
      rintro H4 ⟨e4, hDx⟩
      refine WP.neD (.lst (SqL.of (e4 _ _ hP)) (dpk i)) (.lst (SqL.of hDx) (dpk i)) ?_ rfl rfl
      rw [SeqAt.eqv_refl _ rfl]
      refine ⟨_, rfl, iteF ?_⟩
      k_updF
      exact ⟨(e.trans s2).trans e4, _, _, rfl⟩
    rintro σ' H' ⟨e, z, z2, rfl⟩
    k_updF
    refine WP.xv B.xi_BadData rfl (e _ _ x1) (e _ _ y1) rfl ?_
    k_updF
    refine WP.xv B.xi_BadData rfl (e _ _ x1) (e _ _ y1) rfl ?_
    k_updF
    refine WP.xv B.xi_BadPart rfl (e _ _ x2) (e _ _ y2) rfl ?_
    k_updF
    refine WP.xv B.xi_BadPart rfl (e _ _ x2) (e _ _ y2) rfl ?_
    refine ⟨WP.sz (show 4 ≤ 1000000 by decide), fun q1 r1 => ?_⟩
    k_updF
    refine ⟨WP.sz (show 4 ≤ 1000000 by decide), fun q2 r2 => ?_⟩
    refine WP.neD (.lst (SqL.of (WP.same_new r2 _ _ upd_same)) (.cons (.str _) (.cons (.str _) (.cons (.str _) (.cons (.str _) .nil))))) (.lst (SqL.of upd_same) (.cons (.str _) (.cons (.str _) (.cons (.str _) (.cons (.str _) .nil))))) ?_ (sh1 hw3) (sh1 hw3)
    rw [SeqAt.eqv_refl _ (SeqAt.canLay_of_shaped (sh1 hw3))]
    refine ⟨_, rfl, iteF ?_⟩
    generalize hG : upd (upd H' q1 _) q2 _ = G
    have e : Same H9 G := by rw [← hG]; exact (e.trans (WP.same_new r1)).trans (WP.same_new r2)
    clear hG r1 r2
    k_updF
    refine WP.xv B.xi_BadProgram rfl (e _ _ x3) (e _ _ y3) rfl ?_
    k_updF
    refine WP.xv B.xi_BadProgram rfl (e _ _ x3) (e _ _ y3) rfl ?_
    k_updF
    refine WP.xv B.xi_BadCode rfl (e _ _ x4) (e _ _ y4) rfl ?_
    k_updF
    refine WP.xv B.xi_BadCode rfl (e _ _ x4) (e _ _ y4) rfl ?_
    refine ⟨WP.sz (show 4 ≤ 1000000 by decide), fun q1 r1 => ?_⟩
    k_updF
    refine ⟨WP.sz (show 4 ≤ 1000000 by decide), fun q2 r2 => ?_⟩
    refine WP.neD (.lst (SqL.of (WP.same_new r2 _ _ upd_same)) (.cons (.int _) (.cons (.str _) (.cons (.int _) (.cons (.str _) .nil))))) (.lst (SqL.of upd_same) (.cons (.int _) (.cons (.str _) (.cons (.int _) (.cons (.str _) .nil))))) ?_ (sh2 hw3) (sh2 hw3)
    rw [SeqAt.eqv_refl _ (SeqAt.canLay_of_shaped (sh2 hw3))]
    refine ⟨_, rfl, iteF ?_⟩
    generalize hG : upd (upd G q1 _) q2 _ = G2
    have e : Same H9 G2 := by rw [← hG]; exact (e.trans (WP.same_new r1)).trans (WP.same_new r2)
    clear hG r1 r2
    k_updF
    refine ⟨WP.sz (show 8 ≤ 1000000 by decide), fun p1 m1 => ?_⟩
    have f1 : Same G2 (upd G2 p1 (.lst [.int 20, .int 18, .int 80, .int 50, .int 4000, .int 4000, .int 1000000000, .int 20])) := WP.same_new m1
    have v1 : (upd G2 p1 (.lst [.int 20, .int 18, .int 80, .int 50, .int 4000, .int 4000, .int 1000000000, .int 20])) p1 = _ := upd_same
    generalize upd G2 p1 _ = G3 at f1 v1 ⊢
    k_updF
    refine ⟨WP.sz (show 5 ≤ 1000000 by decide), fun p2 m2 => ?_⟩
    have f2 : Same G3 (upd G3 p2 (.lst [.int 60, .int 8, .int 10, .int 40000, .int 49])) := WP.same_new m2
    have v2 : (upd G3 p2 (.lst [.int 60, .int 8, .int 10, .int 40000, .int 49])) p2 = _ := upd_same
    generalize upd G3 p2 _ = G4 at f2 v2 ⊢
    refine catLL (f2 _ _ v1) v2 (by show 8 + 5 ≤ _; decide) (fun C hC => ?_)
    have f3 : Same G4 (upd G4 C (.lst ([.int 20, .int 18, .int 80, .int 50, .int 4000, .int 4000, .int 1000000000, .int 20] ++ [.int 60, .int 8, .int 10, .int 40000, .int 49]))) := WP.same_new hC
    have v3 : (upd G4 C (.lst ([.int 20, .int 18, .int 80, .int 50, .int 4000, .int 4000, .int 1000000000, .int 20] ++ [.int 60, .int 8, .int 10, .int 40000, .int 49]))) C = _ := upd_same
    generalize upd G4 C _ = G5 at f3 v3 ⊢
    k_updF
    refine WP.iC ⟨by decide, by decide, by decide⟩ ?_
    k_updF
    refine ⟨WP.sz (show 13 ≤ 1000000 by decide), fun p3 m3 => ?_⟩
    have e := ((e.trans f1).trans f2).trans f3
    generalize hG : upd G5 p3 _ = G6
    have f4 : Same G5 G6 := hG ▸ WP.same_new m3
    have v4 : G6 p3 = some (.lst [.int 20, .int 18, .int 80, .int 50, .int 4000, .int 4000, .int 1000000000, .int 20, .int 60, .int 8, .int 10, .int 40000, .int 49]) := by rw [← hG]; exact upd_same
    clear hG
    have e := e.trans f4
    have v3 := f4 _ _ v3
    k_updF
    refine WP.xv B.xi_Halt rfl (e _ _ x5) (e _ _ y5) rfl ?_
    k_updF
    refine WP.xv B.xi_BadJob rfl (e _ _ x6) (e _ _ y6) rfl ?_
    k_updF
    refine ⟨WP.sz (show 2 ≤ 1000000 by decide), fun q1 r1 => ?_⟩
    k_updF
    refine ⟨WP.sz (show 2 ≤ 1000000 by decide), fun q2 r2 => ?_⟩
    refine WP.eqD (.lst (SqL.of (WP.same_new r2 _ _ upd_same)) (.cons (.str _) (.cons (.str _) .nil))) (.lst (SqL.of upd_same) (.cons (.str _) (.cons (.str _) .nil))) ?_ (sh3 hw3) (sh3 hw3)
    rw [SeqAt.eqv_refl _ (SeqAt.canLay_of_shaped (sh3 hw3))]
    refine ⟨_, rfl, iteT ?_⟩
    have f5 := (WP.same_new r1).trans (WP.same_new (o := .lst [.str w, .str w]) r2)
    k_updF
    refine WP.eqD (.lst (SqL.of (f5 _ _ v3)) LIM) (.lst (SqL.of (f5 _ _ v4)) LIM) ?_ rfl rfl
    rw [SeqAt.eqv_refl _ rfl]
    exact k _
end
theorem all_mk {l : PySem.W.OpenLaw} {w : World} {K : PySem.W.Frag} {h : Heap} {mg : Str → Option Value} {fa : Addr} (X : K.In h) (G : h.Ns mainGlobals mg) (hfa : mg "law" = some (.ref fa))
    {C_BadCode : Addr} (on_BadCode : PySem.W.nsIn K mainGlobals "BadCode" = some (some (.ref C_BadCode))) (xo_BadCode : L2.OexC K C_BadCode) (xx_BadCode : L2.XfC K C_BadCode)
    (xc_BadCode : L2.ExcC K C_BadCode)
    (ot_BadCode_0 : PySem.W.findIn K (.ref C_BadCode) "place" = some none)
    (ot_BadCode_1 : PySem.W.findIn K (.ref C_BadCode) "reason" = some none)
    {C_BadData : Addr} (on_BadData : PySem.W.nsIn K mainGlobals "BadData" = some (some (.ref C_BadData))) (xo_BadData : L2.OexC K C_BadData) (xx_BadData : L2.XfC K C_BadData)
    (xc_BadData : L2.ExcC K C_BadData)
    (ot_BadData_0 : PySem.W.findIn K (.ref C_BadData) "reason" = some none)
    (ot_BadData_1 : PySem.W.findIn K (.ref C_BadData) "name" = some none)
    {C_BadJob : Addr} (on_BadJob : PySem.W.nsIn K mainGlobals "BadJob" = some (some (.ref C_BadJob))) (xo_BadJob : L2.OexC K C_BadJob) (xx_BadJob : L2.XfC K C_BadJob)
    (xc_BadJob : L2.ExcC K C_BadJob)
    (ot_BadJob_0 : PySem.W.findIn K (.ref C_BadJob) "reason" = some none)
    {C_BadPart : Addr} (on_BadPart : PySem.W.nsIn K mainGlobals "BadPart" = some (some (.ref C_BadPart))) (xo_BadPart : L2.OexC K C_BadPart) (xx_BadPart : L2.XfC K C_BadPart)
    (xc_BadPart : L2.ExcC K C_BadPart)
    (ot_BadPart_0 : PySem.W.findIn K (.ref C_BadPart) "reason" = some none)
    (ot_BadPart_1 : PySem.W.findIn K (.ref C_BadPart) "name" = some none)
    {C_BadProgram : Addr} (on_BadProgram : PySem.W.nsIn K mainGlobals "BadProgram" = some (some (.ref C_BadProgram))) (xo_BadProgram : L2.OexC K C_BadProgram) (xx_BadProgram : L2.XfC K C_BadProgram)
    (xc_BadProgram : L2.ExcC K C_BadProgram)
    (ot_BadProgram_0 : PySem.W.findIn K (.ref C_BadProgram) "line" = some none)
    (ot_BadProgram_1 : PySem.W.findIn K (.ref C_BadProgram) "reason" = some none)
    {C_Halt : Addr} (on_Halt : PySem.W.nsIn K mainGlobals "Halt" = some (some (.ref C_Halt))) (xo_Halt : L2.OexC K C_Halt) (xx_Halt : L2.XfC K C_Halt)
    (xc_Halt : L2.ExcC K C_Halt)
    (ot_Halt_0 : PySem.W.findIn K (.ref C_Halt) "end" = some none)
    {fx0 : Addr} {odx0 anx0 : Option Addr} {slx0 : Array (Option Value)} {ocx0 kVx0 dcx0 pmx0 cdx0 ctx0 : Value}
    (ax0 : PySem.W.findIn K (.ref C_BadData) "__init__" = some (some (.ref fx0))) (ix0 : PySem.W.isFn K (.ref fx0) = true) (lx0 : K.lookup fx0 = some ⟨ocx0, odx0, .func (PySem.W.fnOf "__init__" "BadData.__init__" (defArgs s_BadData___init__) (defBody s_BadData___init__) (defScope s_BadData___init__) .none kVx0 dcx0 pmx0 anx0 cdx0 ctx0), slx0⟩) (cx0 : PySem.W.codeIn K cdx0 "BadData.__init__" = true) (kx0 : PySem.W.keepIn K (.ref fx0) = true)
    (tfx0 : PySem.W.typeIn K (.ref fx0) = some (.type "function"))
    {fx1 : Addr} {odx1 anx1 : Option Addr} {slx1 : Array (Option Value)} {ocx1 kVx1 dcx1 pmx1 cdx1 ctx1 : Value}
    (ax1 : PySem.W.findIn K (.ref C_BadPart) "__init__" = some (some (.ref fx1))) (ix1 : PySem.W.isFn K (.ref fx1) = true) (lx1 : K.lookup fx1 = some ⟨ocx1, odx1, .func (PySem.W.fnOf "__init__" "BadPart.__init__" (defArgs s_BadPart___init__) (defBody s_BadPart___init__) (defScope s_BadPart___init__) .none kVx1 dcx1 pmx1 anx1 cdx1 ctx1), slx1⟩) (cx1 : PySem.W.codeIn K cdx1 "BadPart.__init__" = true) (kx1 : PySem.W.keepIn K (.ref fx1) = true)
    (tfx1 : PySem.W.typeIn K (.ref fx1) = some (.type "function"))
    {fx2 : Addr} {odx2 anx2 : Option Addr} {slx2 : Array (Option Value)} {ocx2 kVx2 dcx2 pmx2 cdx2 ctx2 : Value}
    (ax2 : PySem.W.findIn K (.ref C_BadProgram) "__init__" = some (some (.ref fx2))) (ix2 : PySem.W.isFn K (.ref fx2) = true) (lx2 : K.lookup fx2 = some ⟨ocx2, odx2, .func (PySem.W.fnOf "__init__" "BadProgram.__init__" (defArgs s_BadProgram___init__) (defBody s_BadProgram___init__) (defScope s_BadProgram___init__) .none kVx2 dcx2 pmx2 anx2 cdx2 ctx2), slx2⟩) (cx2 : PySem.W.codeIn K cdx2 "BadProgram.__init__" = true) (kx2 : PySem.W.keepIn K (.ref fx2) = true)
    (tfx2 : PySem.W.typeIn K (.ref fx2) = some (.type "function"))
    {fx3 : Addr} {odx3 anx3 : Option Addr} {slx3 : Array (Option Value)} {ocx3 kVx3 dcx3 pmx3 cdx3 ctx3 : Value}
    (ax3 : PySem.W.findIn K (.ref C_BadCode) "__init__" = some (some (.ref fx3))) (ix3 : PySem.W.isFn K (.ref fx3) = true) (lx3 : K.lookup fx3 = some ⟨ocx3, odx3, .func (PySem.W.fnOf "__init__" "BadCode.__init__" (defArgs s_BadCode___init__) (defBody s_BadCode___init__) (defScope s_BadCode___init__) .none kVx3 dcx3 pmx3 anx3 cdx3 ctx3), slx3⟩) (cx3 : PySem.W.codeIn K cdx3 "BadCode.__init__" = true) (kx3 : PySem.W.keepIn K (.ref fx3) = true)
    (tfx3 : PySem.W.typeIn K (.ref fx3) = some (.type "function"))
    {fx4 : Addr} {odx4 anx4 : Option Addr} {slx4 : Array (Option Value)} {ocx4 kVx4 dcx4 pmx4 cdx4 ctx4 : Value}
    (ax4 : PySem.W.findIn K (.ref C_Halt) "__init__" = some (some (.ref fx4))) (ix4 : PySem.W.isFn K (.ref fx4) = true) (lx4 : K.lookup fx4 = some ⟨ocx4, odx4, .func (PySem.W.fnOf "__init__" "Halt.__init__" (defArgs s_Halt___init__) (defBody s_Halt___init__) (defScope s_Halt___init__) .none kVx4 dcx4 pmx4 anx4 cdx4 ctx4), slx4⟩) (cx4 : PySem.W.codeIn K cdx4 "Halt.__init__" = true) (kx4 : PySem.W.keepIn K (.ref fx4) = true)
    (tfx4 : PySem.W.typeIn K (.ref fx4) = some (.type "function"))
    {fx5 : Addr} {odx5 anx5 : Option Addr} {slx5 : Array (Option Value)} {ocx5 kVx5 dcx5 pmx5 cdx5 ctx5 : Value}
    (ax5 : PySem.W.findIn K (.ref C_BadJob) "__init__" = some (some (.ref fx5))) (ix5 : PySem.W.isFn K (.ref fx5) = true) (lx5 : K.lookup fx5 = some ⟨ocx5, odx5, .func (PySem.W.fnOf "__init__" "BadJob.__init__" (defArgs s_BadJob___init__) (defBody s_BadJob___init__) (defScope s_BadJob___init__) .none kVx5 dcx5 pmx5 anx5 cdx5 ctx5), slx5⟩) (cx5 : PySem.W.codeIn K cdx5 "BadJob.__init__" = true) (kx5 : PySem.W.keepIn K (.ref fx5) = true)
    (tfx5 : PySem.W.typeIn K (.ref fx5) = some (.type "function"))
    {fx6 : Addr} {odx6 anx6 : Option Addr} {slx6 : Array (Option Value)} {ocx6 kVx6 dcx6 pmx6 cdx6 ctx6 : Value}
    (ax6 : PySem.W.nsIn K mainGlobals "_law_cell" = some (some (.ref fx6))) (lx6 : K.lookup fx6 = some ⟨ocx6, odx6, .func (PySem.W.fnOf "_law_cell" "_law_cell" (defArgs s__law_cell) (defBody s__law_cell) (defScope s__law_cell) .none kVx6 dcx6 pmx6 anx6 cdx6 ctx6), slx6⟩) (cx6 : PySem.W.codeIn K cdx6 "_law_cell" = true) (kx6 : PySem.W.keepIn K (.ref fx6) = true)
    {fx7 : Addr} {odx7 anx7 : Option Addr} {slx7 : Array (Option Value)} {ocx7 kVx7 dcx7 pmx7 cdx7 ctx7 : Value}
    (ax7 : PySem.W.nsIn K mainGlobals "_law_kinds" = some (some (.ref fx7))) (lx7 : K.lookup fx7 = some ⟨ocx7, odx7, .func (PySem.W.fnOf "_law_kinds" "_law_kinds" (defArgs s__law_kinds) (defBody s__law_kinds) (defScope s__law_kinds) .none kVx7 dcx7 pmx7 anx7 cdx7 ctx7), slx7⟩) (cx7 : PySem.W.codeIn K cdx7 "_law_kinds" = true) (kx7 : PySem.W.keepIn K (.ref fx7) = true)
    {fx8 : Addr} {odx8 anx8 : Option Addr} {slx8 : Array (Option Value)} {ocx8 kVx8 dcx8 pmx8 cdx8 ctx8 : Value}
    (ax8 : PySem.W.nsIn K mainGlobals "law" = some (some (.ref fx8))) (lx8 : K.lookup fx8 = some ⟨ocx8, odx8, .func (PySem.W.fnOf "law" "law" (defArgs s_law) (defBody s_law) (defScope s_law) .none kVx8 dcx8 pmx8 anx8 cdx8 ctx8), slx8⟩) (cx8 : PySem.W.codeIn K cdx8 "law" = true) (kx8 : PySem.W.keepIn K (.ref fx8) = true)
    (z_ValueError : PySem.W.nsIn K mainGlobals "ValueError" = some none)
    (z_int : PySem.W.nsIn K mainGlobals "int" = some none)
    (z_isinstance : PySem.W.nsIn K mainGlobals "isinstance" = some none)
    (z_len : PySem.W.nsIn K mainGlobals "len" = some none)
    (z_range : PySem.W.nsIn K mainGlobals "range" = some none)
    {t_MOST_CALLS : Tok} (g_MOST_CALLS : PySem.W.nsIn K mainGlobals "MOST_CALLS" = some (some (.int 10 t_MOST_CALLS)))
    {t_MOST_DEPTH : Tok} (g_MOST_DEPTH : PySem.W.nsIn K mainGlobals "MOST_DEPTH" = some (some (.int 20 t_MOST_DEPTH)))
    {t_MOST_DIGITS : Tok} (g_MOST_DIGITS : PySem.W.nsIn K mainGlobals "MOST_DIGITS" = some (some (.int 18 t_MOST_DIGITS)))
    {t_MOST_LEVEL : Tok} (g_MOST_LEVEL : PySem.W.nsIn K mainGlobals "MOST_LEVEL" = some (some (.int 49 t_MOST_LEVEL)))
    {t_MOST_LINE : Tok} (g_MOST_LINE : PySem.W.nsIn K mainGlobals "MOST_LINE" = some (some (.int 4000 t_MOST_LINE)))
    {t_MOST_NAME : Tok} (g_MOST_NAME : PySem.W.nsIn K mainGlobals "MOST_NAME" = some (some (.int 20 t_MOST_NAME)))
    {t_MOST_NEST : Tok} (g_MOST_NEST : PySem.W.nsIn K mainGlobals "MOST_NEST" = some (some (.int 8 t_MOST_NEST)))
    {t_MOST_PROGRAM : Tok} (g_MOST_PROGRAM : PySem.W.nsIn K mainGlobals "MOST_PROGRAM" = some (some (.int 40000 t_MOST_PROGRAM)))
    {t_MOST_SCALE : Tok} (g_MOST_SCALE : PySem.W.nsIn K mainGlobals "MOST_SCALE" = some (some (.int 60 t_MOST_SCALE)))
    {t_MOST_STEPS : Tok} (g_MOST_STEPS : PySem.W.nsIn K mainGlobals "MOST_STEPS" = some (some (.int 1000000000 t_MOST_STEPS)))
    {t_MOST_STORAGE : Tok} (g_MOST_STORAGE : PySem.W.nsIn K mainGlobals "MOST_STORAGE" = some (some (.int 4000 t_MOST_STORAGE)))
    {t_MOST_TEXT : Tok} (g_MOST_TEXT : PySem.W.nsIn K mainGlobals "MOST_TEXT" = some (some (.int 80 t_MOST_TEXT)))
    {t_MOST_TIMES : Tok} (g_MOST_TIMES : PySem.W.nsIn K mainGlobals "MOST_TIMES" = some (some (.int 50 t_MOST_TIMES)))
    {aC_BadDecimal : Addr} (n_BadDecimal : PySem.W.nsIn K mainGlobals "BadDecimal" = some (some (.ref aC_BadDecimal))) (x_BadDecimal : PySem.W.excIn K aC_BadDecimal [.type "ValueError", .type "Exception", .type "BaseException", .type "object"] "ValueError.__new__" = true) (kc_BadDecimal : PySem.W.keepIn K (.ref aC_BadDecimal) = true) (tc_BadDecimal : PySem.W.typeIn K (.ref aC_BadDecimal) = some (.type "type"))
    (hg_BadDecimal : PySem.W.findIn K (.ref aC_BadDecimal) "__getattribute__" = some (some (.builtin "BaseException.__getattribute__"))) (hk_BadDecimal : PySem.W.findIn K (.ref aC_BadDecimal) "__getattr__" = some none) (hs_BadDecimal : PySem.W.subIn K (.ref aC_BadDecimal) (.type "BaseException") = some true) (hd_BadDecimal : PySem.W.hasDictIn K aC_BadDecimal = true) (ha_BadDecimal : PySem.W.findIn K (.ref aC_BadDecimal) "__class__" = some (some (.builtin "object.__class__"))) (hm_BadDecimal : PySem.W.mroIn K aC_BadDecimal (.type "object") = some true)
    {aC_BadPicture : Addr} (n_BadPicture : PySem.W.nsIn K mainGlobals "BadPicture" = some (some (.ref aC_BadPicture))) (x_BadPicture : PySem.W.excIn K aC_BadPicture [.type "ValueError", .type "Exception", .type "BaseException", .type "object"] "ValueError.__new__" = true) (kc_BadPicture : PySem.W.keepIn K (.ref aC_BadPicture) = true) (tc_BadPicture : PySem.W.typeIn K (.ref aC_BadPicture) = some (.type "type"))
    (hg_BadPicture : PySem.W.findIn K (.ref aC_BadPicture) "__getattribute__" = some (some (.builtin "BaseException.__getattribute__"))) (hk_BadPicture : PySem.W.findIn K (.ref aC_BadPicture) "__getattr__" = some none) (hs_BadPicture : PySem.W.subIn K (.ref aC_BadPicture) (.type "BaseException") = some true) (hd_BadPicture : PySem.W.hasDictIn K aC_BadPicture = true) (ha_BadPicture : PySem.W.findIn K (.ref aC_BadPicture) "__class__" = some (some (.builtin "object.__class__"))) (hm_BadPicture : PySem.W.mroIn K aC_BadPicture (.type "object") = some true)
    {aC_CardError : Addr} (n_CardError : PySem.W.nsIn K mainGlobals "CardError" = some (some (.ref aC_CardError))) (x_CardError : PySem.W.excIn K aC_CardError [.type "ValueError", .type "Exception", .type "BaseException", .type "object"] "ValueError.__new__" = true) (kc_CardError : PySem.W.keepIn K (.ref aC_CardError) = true) (tc_CardError : PySem.W.typeIn K (.ref aC_CardError) = some (.type "type"))
    (hg_CardError : PySem.W.findIn K (.ref aC_CardError) "__getattribute__" = some (some (.builtin "BaseException.__getattribute__"))) (hk_CardError : PySem.W.findIn K (.ref aC_CardError) "__getattr__" = some none) (hs_CardError : PySem.W.subIn K (.ref aC_CardError) (.type "BaseException") = some true) (hd_CardError : PySem.W.hasDictIn K aC_CardError = true) (ha_CardError : PySem.W.findIn K (.ref aC_CardError) "__class__" = some (some (.builtin "object.__class__"))) (hm_CardError : PySem.W.mroIn K aC_CardError (.type "object") = some true)
    (hn_ : PySem.W.specialIn K (.builtin "object.__class__") "__get__" = some (some (.builtin "getset_descriptor.__get__"))) (ht_ : PySem.W.takesIn K (.builtin "object.__class__") = some true)
    (t_BadCode_ValueError : PySem.W.kitOne K (.ref C_BadCode) (.type "ValueError") = some true)
    (t_BadData_ValueError : PySem.W.kitOne K (.ref C_BadData) (.type "ValueError") = some true)
    (t_BadDecimal_ValueError : PySem.W.kitOne K (.ref aC_BadDecimal) (.type "ValueError") = some true)
    (t_BadJob_ValueError : PySem.W.kitOne K (.ref C_BadJob) (.type "ValueError") = some true)
    (t_BadPart_ValueError : PySem.W.kitOne K (.ref C_BadPart) (.type "ValueError") = some true)
    (t_BadPicture_ValueError : PySem.W.kitOne K (.ref aC_BadPicture) (.type "ValueError") = some true)
    (t_BadProgram_ValueError : PySem.W.kitOne K (.ref C_BadProgram) (.type "ValueError") = some true)
    (t_Halt_ValueError : PySem.W.kitOne K (.ref C_Halt) (.type "ValueError") = some true)
    (i_BadCode_BadCode : PySem.W.kitOne K (.ref C_BadCode) (.ref C_BadCode) = some true)
    (i_BadCode_BadData : PySem.W.kitOne K (.ref C_BadCode) (.ref C_BadData) = some false)
    (i_BadCode_BadDecimal : PySem.W.kitOne K (.ref C_BadCode) (.ref aC_BadDecimal) = some false)
    (i_BadCode_BadJob : PySem.W.kitOne K (.ref C_BadCode) (.ref C_BadJob) = some false)
    (i_BadCode_BadPart : PySem.W.kitOne K (.ref C_BadCode) (.ref C_BadPart) = some false)
    (i_BadCode_BadPicture : PySem.W.kitOne K (.ref C_BadCode) (.ref aC_BadPicture) = some false)
    (i_BadCode_BadProgram : PySem.W.kitOne K (.ref C_BadCode) (.ref C_BadProgram) = some false)
    (i_BadCode_CardError : PySem.W.kitOne K (.ref C_BadCode) (.ref aC_CardError) = some true)
    (i_BadCode_Halt : PySem.W.kitOne K (.ref C_BadCode) (.ref C_Halt) = some false)
    (i_BadData_BadCode : PySem.W.kitOne K (.ref C_BadData) (.ref C_BadCode) = some false)
    (i_BadData_BadData : PySem.W.kitOne K (.ref C_BadData) (.ref C_BadData) = some true)
    (i_BadData_BadDecimal : PySem.W.kitOne K (.ref C_BadData) (.ref aC_BadDecimal) = some false)
    (i_BadData_BadJob : PySem.W.kitOne K (.ref C_BadData) (.ref C_BadJob) = some false)
    (i_BadData_BadPart : PySem.W.kitOne K (.ref C_BadData) (.ref C_BadPart) = some false)
    (i_BadData_BadPicture : PySem.W.kitOne K (.ref C_BadData) (.ref aC_BadPicture) = some false)
    (i_BadData_BadProgram : PySem.W.kitOne K (.ref C_BadData) (.ref C_BadProgram) = some false)
    (i_BadData_CardError : PySem.W.kitOne K (.ref C_BadData) (.ref aC_CardError) = some true)
    (i_BadData_Halt : PySem.W.kitOne K (.ref C_BadData) (.ref C_Halt) = some false)
    (i_BadDecimal_BadCode : PySem.W.kitOne K (.ref aC_BadDecimal) (.ref C_BadCode) = some false)
    (i_BadDecimal_BadData : PySem.W.kitOne K (.ref aC_BadDecimal) (.ref C_BadData) = some false)
    (i_BadDecimal_BadDecimal : PySem.W.kitOne K (.ref aC_BadDecimal) (.ref aC_BadDecimal) = some true)
    (i_BadDecimal_BadJob : PySem.W.kitOne K (.ref aC_BadDecimal) (.ref C_BadJob) = some false)
    (i_BadDecimal_BadPart : PySem.W.kitOne K (.ref aC_BadDecimal) (.ref C_BadPart) = some false)
    (i_BadDecimal_BadPicture : PySem.W.kitOne K (.ref aC_BadDecimal) (.ref aC_BadPicture) = some false)
    (i_BadDecimal_BadProgram : PySem.W.kitOne K (.ref aC_BadDecimal) (.ref C_BadProgram) = some false)
    (i_BadDecimal_CardError : PySem.W.kitOne K (.ref aC_BadDecimal) (.ref aC_CardError) = some true)
    (i_BadDecimal_Halt : PySem.W.kitOne K (.ref aC_BadDecimal) (.ref C_Halt) = some false)
    (i_BadJob_BadCode : PySem.W.kitOne K (.ref C_BadJob) (.ref C_BadCode) = some false)
    (i_BadJob_BadData : PySem.W.kitOne K (.ref C_BadJob) (.ref C_BadData) = some false)
    (i_BadJob_BadDecimal : PySem.W.kitOne K (.ref C_BadJob) (.ref aC_BadDecimal) = some false)
    (i_BadJob_BadJob : PySem.W.kitOne K (.ref C_BadJob) (.ref C_BadJob) = some true)
    (i_BadJob_BadPart : PySem.W.kitOne K (.ref C_BadJob) (.ref C_BadPart) = some false)
    (i_BadJob_BadPicture : PySem.W.kitOne K (.ref C_BadJob) (.ref aC_BadPicture) = some false)
    (i_BadJob_BadProgram : PySem.W.kitOne K (.ref C_BadJob) (.ref C_BadProgram) = some false)
    (i_BadJob_CardError : PySem.W.kitOne K (.ref C_BadJob) (.ref aC_CardError) = some true)
    (i_BadJob_Halt : PySem.W.kitOne K (.ref C_BadJob) (.ref C_Halt) = some false)
    (i_BadPart_BadCode : PySem.W.kitOne K (.ref C_BadPart) (.ref C_BadCode) = some false)
    (i_BadPart_BadData : PySem.W.kitOne K (.ref C_BadPart) (.ref C_BadData) = some false)
    (i_BadPart_BadDecimal : PySem.W.kitOne K (.ref C_BadPart) (.ref aC_BadDecimal) = some false)
    (i_BadPart_BadJob : PySem.W.kitOne K (.ref C_BadPart) (.ref C_BadJob) = some false)
    (i_BadPart_BadPart : PySem.W.kitOne K (.ref C_BadPart) (.ref C_BadPart) = some true)
    (i_BadPart_BadPicture : PySem.W.kitOne K (.ref C_BadPart) (.ref aC_BadPicture) = some false)
    (i_BadPart_BadProgram : PySem.W.kitOne K (.ref C_BadPart) (.ref C_BadProgram) = some false)
    (i_BadPart_CardError : PySem.W.kitOne K (.ref C_BadPart) (.ref aC_CardError) = some true)
    (i_BadPart_Halt : PySem.W.kitOne K (.ref C_BadPart) (.ref C_Halt) = some false)
    (i_BadPicture_BadCode : PySem.W.kitOne K (.ref aC_BadPicture) (.ref C_BadCode) = some false)
    (i_BadPicture_BadData : PySem.W.kitOne K (.ref aC_BadPicture) (.ref C_BadData) = some false)
    (i_BadPicture_BadDecimal : PySem.W.kitOne K (.ref aC_BadPicture) (.ref aC_BadDecimal) = some false)
    (i_BadPicture_BadJob : PySem.W.kitOne K (.ref aC_BadPicture) (.ref C_BadJob) = some false)
    (i_BadPicture_BadPart : PySem.W.kitOne K (.ref aC_BadPicture) (.ref C_BadPart) = some false)
    (i_BadPicture_BadPicture : PySem.W.kitOne K (.ref aC_BadPicture) (.ref aC_BadPicture) = some true)
    (i_BadPicture_BadProgram : PySem.W.kitOne K (.ref aC_BadPicture) (.ref C_BadProgram) = some false)
    (i_BadPicture_CardError : PySem.W.kitOne K (.ref aC_BadPicture) (.ref aC_CardError) = some true)
    (i_BadPicture_Halt : PySem.W.kitOne K (.ref aC_BadPicture) (.ref C_Halt) = some false)
    (i_BadProgram_BadCode : PySem.W.kitOne K (.ref C_BadProgram) (.ref C_BadCode) = some false)
    (i_BadProgram_BadData : PySem.W.kitOne K (.ref C_BadProgram) (.ref C_BadData) = some false)
    (i_BadProgram_BadDecimal : PySem.W.kitOne K (.ref C_BadProgram) (.ref aC_BadDecimal) = some false)
    (i_BadProgram_BadJob : PySem.W.kitOne K (.ref C_BadProgram) (.ref C_BadJob) = some false)
    (i_BadProgram_BadPart : PySem.W.kitOne K (.ref C_BadProgram) (.ref C_BadPart) = some false)
    (i_BadProgram_BadPicture : PySem.W.kitOne K (.ref C_BadProgram) (.ref aC_BadPicture) = some false)
    (i_BadProgram_BadProgram : PySem.W.kitOne K (.ref C_BadProgram) (.ref C_BadProgram) = some true)
    (i_BadProgram_CardError : PySem.W.kitOne K (.ref C_BadProgram) (.ref aC_CardError) = some true)
    (i_BadProgram_Halt : PySem.W.kitOne K (.ref C_BadProgram) (.ref C_Halt) = some false)
    (i_Halt_BadCode : PySem.W.kitOne K (.ref C_Halt) (.ref C_BadCode) = some false)
    (i_Halt_BadData : PySem.W.kitOne K (.ref C_Halt) (.ref C_BadData) = some false)
    (i_Halt_BadDecimal : PySem.W.kitOne K (.ref C_Halt) (.ref aC_BadDecimal) = some false)
    (i_Halt_BadJob : PySem.W.kitOne K (.ref C_Halt) (.ref C_BadJob) = some false)
    (i_Halt_BadPart : PySem.W.kitOne K (.ref C_Halt) (.ref C_BadPart) = some false)
    (i_Halt_BadPicture : PySem.W.kitOne K (.ref C_Halt) (.ref aC_BadPicture) = some false)
    (i_Halt_BadProgram : PySem.W.kitOne K (.ref C_Halt) (.ref C_BadProgram) = some false)
    (i_Halt_CardError : PySem.W.kitOne K (.ref C_Halt) (.ref aC_CardError) = some true)
    (i_Halt_Halt : PySem.W.kitOne K (.ref C_Halt) (.ref C_Halt) = some true)
    : ∃ fd : FuncData, (∀ (s : Shared) (v : Value), BindsTo s fd ⟨[v], []⟩ [("script", v)]) ∧ ∀ base : Heap, K.In base → base.Ns mainGlobals mg → FnOk l.prog w K mg base CX0 3 fa fd ["script"] (sp_law K) := by
  have e := hfa.symm.trans (PySem.W.mg_of X G ax8)
  cases e
  have B : Blt w K mg := ⟨PySem.W.mg_none_of X G z_ValueError, PySem.W.mg_none_of X G z_int, PySem.W.mg_none_of X G z_isinstance, PySem.W.mg_none_of X G z_len, PySem.W.mg_none_of X G z_range, ⟨_, PySem.W.mg_of X G g_MOST_CALLS, _, rfl⟩, ⟨_, PySem.W.mg_of X G g_MOST_DEPTH, _, rfl⟩, ⟨_, PySem.W.mg_of X G g_MOST_DIGITS, _, rfl⟩, ⟨_, PySem.W.mg_of X G g_MOST_LEVEL, _, rfl⟩, ⟨_, PySem.W.mg_of X G g_MOST_LINE, _, rfl⟩, ⟨_, PySem.W.mg_of X G g_MOST_NAME, _, rfl⟩, ⟨_, PySem.W.mg_of X G g_MOST_NEST, _, rfl⟩, ⟨_, PySem.W.mg_of X G g_MOST_PROGRAM, _, rfl⟩, ⟨_, PySem.W.mg_of X G g_MOST_SCALE, _, rfl⟩, ⟨_, PySem.W.mg_of X G g_MOST_STEPS, _, rfl⟩, ⟨_, PySem.W.mg_of X G g_MOST_STORAGE, _, rfl⟩, ⟨_, PySem.W.mg_of X G g_MOST_TEXT, _, rfl⟩, ⟨_, PySem.W.mg_of X G g_MOST_TIMES, _, rfl⟩, WP.ExiOk.mk' (PySem.W.mg_of X G on_BadCode) xo_BadCode xx_BadCode (List.forall_mem_cons.mpr ⟨ot_BadCode_0, (List.forall_mem_cons.mpr ⟨ot_BadCode_1, (fun _ h => nomatch h)⟩)⟩) xc_BadCode, WP.ExiOk.mk' (PySem.W.mg_of X G on_BadData) xo_BadData xx_BadData (List.forall_mem_cons.mpr ⟨ot_BadData_0, (List.forall_mem_cons.mpr ⟨ot_BadData_1, (fun _ h => nomatch h)⟩)⟩) xc_BadData, WP.ExiOk.mk' (PySem.W.mg_of X G on_BadJob) xo_BadJob xx_BadJob (List.forall_mem_cons.mpr ⟨ot_BadJob_0, (fun _ h => nomatch h)⟩) xc_BadJob, WP.ExiOk.mk' (PySem.W.mg_of X G on_BadPart) xo_BadPart xx_BadPart (List.forall_mem_cons.mpr ⟨ot_BadPart_0, (List.forall_mem_cons.mpr ⟨ot_BadPart_1, (fun _ h => nomatch h)⟩)⟩) xc_BadPart, WP.ExiOk.mk' (PySem.W.mg_of X G on_BadProgram) xo_BadProgram xx_BadProgram (List.forall_mem_cons.mpr ⟨ot_BadProgram_0, (List.forall_mem_cons.mpr ⟨ot_BadProgram_1, (fun _ h => nomatch h)⟩)⟩) xc_BadProgram, WP.ExiOk.mk' (PySem.W.mg_of X G on_Halt) xo_Halt xx_Halt (List.forall_mem_cons.mpr ⟨ot_Halt_0, (fun _ h => nomatch h)⟩) xc_Halt, WP.ExcOk.mk' (PySem.W.mg_of X G n_BadDecimal) ⟨x_BadDecimal, kc_BadDecimal, tc_BadDecimal, ⟨hg_BadDecimal, hk_BadDecimal, hs_BadDecimal, hd_BadDecimal, ha_BadDecimal, hn_, ht_, hm_BadDecimal⟩⟩, WP.ExcOk.mk' (PySem.W.mg_of X G n_BadPicture) ⟨x_BadPicture, kc_BadPicture, tc_BadPicture, ⟨hg_BadPicture, hk_BadPicture, hs_BadPicture, hd_BadPicture, ha_BadPicture, hn_, ht_, hm_BadPicture⟩⟩, WP.ExcOk.mk' (PySem.W.mg_of X G n_CardError) ⟨x_CardError, kc_CardError, tc_CardError, ⟨hg_CardError, hk_CardError, hs_CardError, hd_CardError, ha_CardError, hn_, ht_, hm_CardError⟩⟩, by rw [WP.ca_of (PySem.W.mg_of X G on_BadCode)]; exact t_BadCode_ValueError, by rw [WP.ca_of (PySem.W.mg_of X G on_BadData)]; exact t_BadData_ValueError, by rw [WP.ca_of (PySem.W.mg_of X G n_BadDecimal)]; exact t_BadDecimal_ValueError, by rw [WP.ca_of (PySem.W.mg_of X G on_BadJob)]; exact t_BadJob_ValueError, by rw [WP.ca_of (PySem.W.mg_of X G on_BadPart)]; exact t_BadPart_ValueError, by rw [WP.ca_of (PySem.W.mg_of X G n_BadPicture)]; exact t_BadPicture_ValueError, by rw [WP.ca_of (PySem.W.mg_of X G on_BadProgram)]; exact t_BadProgram_ValueError, by rw [WP.ca_of (PySem.W.mg_of X G on_Halt)]; exact t_Halt_ValueError, by rw [WP.ca_of (PySem.W.mg_of X G on_BadCode)]; exact i_BadCode_BadCode, by rw [WP.ca_of (PySem.W.mg_of X G on_BadCode), WP.ca_of (PySem.W.mg_of X G on_BadData)]; exact i_BadCode_BadData, by rw [WP.ca_of (PySem.W.mg_of X G on_BadCode), WP.ca_of (PySem.W.mg_of X G n_BadDecimal)]; exact i_BadCode_BadDecimal, by rw [WP.ca_of (PySem.W.mg_of X G on_BadCode), WP.ca_of (PySem.W.mg_of X G on_BadJob)]; exact i_BadCode_BadJob, by rw [WP.ca_of (PySem.W.mg_of X G on_BadCode), WP.ca_of (PySem.W.mg_of X G on_BadPart)]; exact i_BadCode_BadPart, by rw [WP.ca_of (PySem.W.mg_of X G on_BadCode), WP.ca_of (PySem.W.mg_of X G n_BadPicture)]; exact i_BadCode_BadPicture, by rw [WP.ca_of (PySem.W.mg_of X G on_BadCode), WP.ca_of (PySem.W.mg_of X G on_BadProgram)]; exact i_BadCode_BadProgram, by rw [WP.ca_of (PySem.W.mg_of X G on_BadCode), WP.ca_of (PySem.W.mg_of X G n_CardError)]; exact i_BadCode_CardError, by rw [WP.ca_of (PySem.W.mg_of X G on_BadCode), WP.ca_of (PySem.W.mg_of X G on_Halt)]; exact i_BadCode_Halt, by rw [WP.ca_of (PySem.W.mg_of X G on_BadData), WP.ca_of (PySem.W.mg_of X G on_BadCode)]; exact i_BadData_BadCode, by rw [WP.ca_of (PySem.W.mg_of X G on_BadData)]; exact i_BadData_BadData, by rw [WP.ca_of (PySem.W.mg_of X G on_BadData), WP.ca_of (PySem.W.mg_of X G n_BadDecimal)]; exact i_BadData_BadDecimal, by rw [WP.ca_of (PySem.W.mg_of X G on_BadData), WP.ca_of (PySem.W.mg_of X G on_BadJob)]; exact i_BadData_BadJob, by rw [WP.ca_of (PySem.W.mg_of X G on_BadData), WP.ca_of (PySem.W.mg_of X G on_BadPart)]; exact i_BadData_BadPart, by rw [WP.ca_of (PySem.W.mg_of X G on_BadData), WP.ca_of (PySem.W.mg_of X G n_BadPicture)]; exact i_BadData_BadPicture, by rw [WP.ca_of (PySem.W.mg_of X G on_BadData), WP.ca_of (PySem.W.mg_of X G on_BadProgram)]; exact i_BadData_BadProgram, by rw [WP.ca_of (PySem.W.mg_of X G on_BadData), WP.ca_of (PySem.W.mg_of X G n_CardError)]; exact i_BadData_CardError, by rw [WP.ca_of (PySem.W.mg_of X G on_BadData), WP.ca_of (PySem.W.mg_of X G on_Halt)]; exact i_BadData_Halt, by rw [WP.ca_of (PySem.W.mg_of X G n_BadDecimal), WP.ca_of (PySem.W.mg_of X G on_BadCode)]; exact i_BadDecimal_BadCode, by rw [WP.ca_of (PySem.W.mg_of X G n_BadDecimal), WP.ca_of (PySem.W.mg_of X G on_BadData)]; exact i_BadDecimal_BadData, by rw [WP.ca_of (PySem.W.mg_of X G n_BadDecimal)]; exact i_BadDecimal_BadDecimal, by rw [WP.ca_of (PySem.W.mg_of X G n_BadDecimal), WP.ca_of (PySem.W.mg_of X G on_BadJob)]; exact i_BadDecimal_BadJob, by rw [WP.ca_of (PySem.W.mg_of X G n_BadDecimal), WP.ca_of (PySem.W.mg_of X G on_BadPart)]; exact i_BadDecimal_BadPart, by rw [WP.ca_of (PySem.W.mg_of X G n_BadDecimal), WP.ca_of (PySem.W.mg_of X G n_BadPicture)]; exact i_BadDecimal_BadPicture, by rw [WP.ca_of (PySem.W.mg_of X G n_BadDecimal), WP.ca_of (PySem.W.mg_of X G on_BadProgram)]; exact i_BadDecimal_BadProgram, by rw [WP.ca_of (PySem.W.mg_of X G n_BadDecimal), WP.ca_of (PySem.W.mg_of X G n_CardError)]; exact i_BadDecimal_CardError, by rw [WP.ca_of (PySem.W.mg_of X G n_BadDecimal), WP.ca_of (PySem.W.mg_of X G on_Halt)]; exact i_BadDecimal_Halt, by rw [WP.ca_of (PySem.W.mg_of X G on_BadJob), WP.ca_of (PySem.W.mg_of X G on_BadCode)]; exact i_BadJob_BadCode, by rw [WP.ca_of (PySem.W.mg_of X G on_BadJob), WP.ca_of (PySem.W.mg_of X G on_BadData)]; exact i_BadJob_BadData, by rw [WP.ca_of (PySem.W.mg_of X G on_BadJob), WP.ca_of (PySem.W.mg_of X G n_BadDecimal)]; exact i_BadJob_BadDecimal, by rw [WP.ca_of (PySem.W.mg_of X G on_BadJob)]; exact i_BadJob_BadJob, by rw [WP.ca_of (PySem.W.mg_of X G on_BadJob), WP.ca_of (PySem.W.mg_of X G on_BadPart)]; exact i_BadJob_BadPart, by rw [WP.ca_of (PySem.W.mg_of X G on_BadJob), WP.ca_of (PySem.W.mg_of X G n_BadPicture)]; exact i_BadJob_BadPicture, by rw [WP.ca_of (PySem.W.mg_of X G on_BadJob), WP.ca_of (PySem.W.mg_of X G on_BadProgram)]; exact i_BadJob_BadProgram, by rw [WP.ca_of (PySem.W.mg_of X G on_BadJob), WP.ca_of (PySem.W.mg_of X G n_CardError)]; exact i_BadJob_CardError, by rw [WP.ca_of (PySem.W.mg_of X G on_BadJob), WP.ca_of (PySem.W.mg_of X G on_Halt)]; exact i_BadJob_Halt, by rw [WP.ca_of (PySem.W.mg_of X G on_BadPart), WP.ca_of (PySem.W.mg_of X G on_BadCode)]; exact i_BadPart_BadCode, by rw [WP.ca_of (PySem.W.mg_of X G on_BadPart), WP.ca_of (PySem.W.mg_of X G on_BadData)]; exact i_BadPart_BadData, by rw [WP.ca_of (PySem.W.mg_of X G on_BadPart), WP.ca_of (PySem.W.mg_of X G n_BadDecimal)]; exact i_BadPart_BadDecimal, by rw [WP.ca_of (PySem.W.mg_of X G on_BadPart), WP.ca_of (PySem.W.mg_of X G on_BadJob)]; exact i_BadPart_BadJob, by rw [WP.ca_of (PySem.W.mg_of X G on_BadPart)]; exact i_BadPart_BadPart, by rw [WP.ca_of (PySem.W.mg_of X G on_BadPart), WP.ca_of (PySem.W.mg_of X G n_BadPicture)]; exact i_BadPart_BadPicture, by rw [WP.ca_of (PySem.W.mg_of X G on_BadPart), WP.ca_of (PySem.W.mg_of X G on_BadProgram)]; exact i_BadPart_BadProgram, by rw [WP.ca_of (PySem.W.mg_of X G on_BadPart), WP.ca_of (PySem.W.mg_of X G n_CardError)]; exact i_BadPart_CardError, by rw [WP.ca_of (PySem.W.mg_of X G on_BadPart), WP.ca_of (PySem.W.mg_of X G on_Halt)]; exact i_BadPart_Halt, by rw [WP.ca_of (PySem.W.mg_of X G n_BadPicture), WP.ca_of (PySem.W.mg_of X G on_BadCode)]; exact i_BadPicture_BadCode, by rw [WP.ca_of (PySem.W.mg_of X G n_BadPicture), WP.ca_of (PySem.W.mg_of X G on_BadData)]; exact i_BadPicture_BadData, by rw [WP.ca_of (PySem.W.mg_of X G n_BadPicture), WP.ca_of (PySem.W.mg_of X G n_BadDecimal)]; exact i_BadPicture_BadDecimal, by rw [WP.ca_of (PySem.W.mg_of X G n_BadPicture), WP.ca_of (PySem.W.mg_of X G on_BadJob)]; exact i_BadPicture_BadJob, by rw [WP.ca_of (PySem.W.mg_of X G n_BadPicture), WP.ca_of (PySem.W.mg_of X G on_BadPart)]; exact i_BadPicture_BadPart, by rw [WP.ca_of (PySem.W.mg_of X G n_BadPicture)]; exact i_BadPicture_BadPicture, by rw [WP.ca_of (PySem.W.mg_of X G n_BadPicture), WP.ca_of (PySem.W.mg_of X G on_BadProgram)]; exact i_BadPicture_BadProgram, by rw [WP.ca_of (PySem.W.mg_of X G n_BadPicture), WP.ca_of (PySem.W.mg_of X G n_CardError)]; exact i_BadPicture_CardError, by rw [WP.ca_of (PySem.W.mg_of X G n_BadPicture), WP.ca_of (PySem.W.mg_of X G on_Halt)]; exact i_BadPicture_Halt, by rw [WP.ca_of (PySem.W.mg_of X G on_BadProgram), WP.ca_of (PySem.W.mg_of X G on_BadCode)]; exact i_BadProgram_BadCode, by rw [WP.ca_of (PySem.W.mg_of X G on_BadProgram), WP.ca_of (PySem.W.mg_of X G on_BadData)]; exact i_BadProgram_BadData, by rw [WP.ca_of (PySem.W.mg_of X G on_BadProgram), WP.ca_of (PySem.W.mg_of X G n_BadDecimal)]; exact i_BadProgram_BadDecimal, by rw [WP.ca_of (PySem.W.mg_of X G on_BadProgram), WP.ca_of (PySem.W.mg_of X G on_BadJob)]; exact i_BadProgram_BadJob, by rw [WP.ca_of (PySem.W.mg_of X G on_BadProgram), WP.ca_of (PySem.W.mg_of X G on_BadPart)]; exact i_BadProgram_BadPart, by rw [WP.ca_of (PySem.W.mg_of X G on_BadProgram), WP.ca_of (PySem.W.mg_of X G n_BadPicture)]; exact i_BadProgram_BadPicture, by rw [WP.ca_of (PySem.W.mg_of X G on_BadProgram)]; exact i_BadProgram_BadProgram, by rw [WP.ca_of (PySem.W.mg_of X G on_BadProgram), WP.ca_of (PySem.W.mg_of X G n_CardError)]; exact i_BadProgram_CardError, by rw [WP.ca_of (PySem.W.mg_of X G on_BadProgram), WP.ca_of (PySem.W.mg_of X G on_Halt)]; exact i_BadProgram_Halt, by rw [WP.ca_of (PySem.W.mg_of X G on_Halt), WP.ca_of (PySem.W.mg_of X G on_BadCode)]; exact i_Halt_BadCode, by rw [WP.ca_of (PySem.W.mg_of X G on_Halt), WP.ca_of (PySem.W.mg_of X G on_BadData)]; exact i_Halt_BadData, by rw [WP.ca_of (PySem.W.mg_of X G on_Halt), WP.ca_of (PySem.W.mg_of X G n_BadDecimal)]; exact i_Halt_BadDecimal, by rw [WP.ca_of (PySem.W.mg_of X G on_Halt), WP.ca_of (PySem.W.mg_of X G on_BadJob)]; exact i_Halt_BadJob, by rw [WP.ca_of (PySem.W.mg_of X G on_Halt), WP.ca_of (PySem.W.mg_of X G on_BadPart)]; exact i_Halt_BadPart, by rw [WP.ca_of (PySem.W.mg_of X G on_Halt), WP.ca_of (PySem.W.mg_of X G n_BadPicture)]; exact i_Halt_BadPicture, by rw [WP.ca_of (PySem.W.mg_of X G on_Halt), WP.ca_of (PySem.W.mg_of X G on_BadProgram)]; exact i_Halt_BadProgram, by rw [WP.ca_of (PySem.W.mg_of X G on_Halt), WP.ca_of (PySem.W.mg_of X G n_CardError)]; exact i_Halt_CardError, by rw [WP.ca_of (PySem.W.mg_of X G on_Halt)]; exact i_Halt_Halt⟩
  have Fx0 := fun_mk (st := s_BadData___init__) lx0 cx0 kx0
  have bx0 := Fx0.binds (ps := ["self", "reason", "name"]) fun _ _ _ _ _ _ us hl => match us, hl with | [_, _, _], _ => rfl
  have Cx0 : ∀ base : Heap, K.In base → base.Ns mainGlobals mg → WP.CalleeE l.prog w K mg base CX0 1 "BadData" ["self", "reason", "name"] (sp_BadData___init__ K mg) := fun base p1 p2 => WP.CalleeE.mk' (ok_BadData___init__ Fx0 B ) (PySem.W.mg_of X G on_BadData) ax0 tfx0 bx0
  have Fx1 := fun_mk (st := s_BadPart___init__) lx1 cx1 kx1
  have bx1 := Fx1.binds (ps := ["self", "reason", "name"]) fun _ _ _ _ _ _ us hl => match us, hl with | [_, _, _], _ => rfl
  have Cx1 : ∀ base : Heap, K.In base → base.Ns mainGlobals mg → WP.CalleeE l.prog w K mg base CX0 1 "BadPart" ["self", "reason", "name"] (sp_BadPart___init__ K mg) := fun base p1 p2 => WP.CalleeE.mk' (ok_BadPart___init__ Fx1 B ) (PySem.W.mg_of X G on_BadPart) ax1 tfx1 bx1
  have Fx2 := fun_mk (st := s_BadProgram___init__) lx2 cx2 kx2
  have bx2 := Fx2.binds (ps := ["self", "line", "reason"]) fun _ _ _ _ _ _ us hl => match us, hl with | [_, _, _], _ => rfl
  have Cx2 : ∀ base : Heap, K.In base → base.Ns mainGlobals mg → WP.CalleeE l.prog w K mg base CX0 1 "BadProgram" ["self", "line", "reason"] (sp_BadProgram___init__ K mg) := fun base p1 p2 => WP.CalleeE.mk' (ok_BadProgram___init__ Fx2 B ) (PySem.W.mg_of X G on_BadProgram) ax2 tfx2 bx2
  have Fx3 := fun_mk (st := s_BadCode___init__) lx3 cx3 kx3
  have bx3 := Fx3.binds (ps := ["self", "place", "reason"]) fun _ _ _ _ _ _ us hl => match us, hl with | [_, _, _], _ => rfl
  have Cx3 : ∀ base : Heap, K.In base → base.Ns mainGlobals mg → WP.CalleeE l.prog w K mg base CX0 1 "BadCode" ["self", "place", "reason"] (sp_BadCode___init__ K mg) := fun base p1 p2 => WP.CalleeE.mk' (ok_BadCode___init__ Fx3 B ) (PySem.W.mg_of X G on_BadCode) ax3 tfx3 bx3
  have Fx4 := fun_mk (st := s_Halt___init__) lx4 cx4 kx4
  have bx4 := Fx4.binds (ps := ["self", "end"]) fun _ _ _ _ _ _ us hl => match us, hl with | [_, _], _ => rfl
  have Cx4 : ∀ base : Heap, K.In base → base.Ns mainGlobals mg → WP.CalleeE l.prog w K mg base CX0 1 "Halt" ["self", "end"] (sp_Halt___init__ K mg) := fun base p1 p2 => WP.CalleeE.mk' (ok_Halt___init__ Fx4 B ) (PySem.W.mg_of X G on_Halt) ax4 tfx4 bx4
  have Fx5 := fun_mk (st := s_BadJob___init__) lx5 cx5 kx5
  have bx5 := Fx5.binds (ps := ["self", "reason"]) fun _ _ _ _ _ _ us hl => match us, hl with | [_, _], _ => rfl
  have Cx5 : ∀ base : Heap, K.In base → base.Ns mainGlobals mg → WP.CalleeE l.prog w K mg base CX0 1 "BadJob" ["self", "reason"] (sp_BadJob___init__ K mg) := fun base p1 p2 => WP.CalleeE.mk' (ok_BadJob___init__ Fx5 B ) (PySem.W.mg_of X G on_BadJob) ax5 tfx5 bx5
  have Fx6 := fun_mk (st := s__law_cell) lx6 cx6 kx6
  have bx6 := Fx6.binds (ps := ["script", "k"]) fun _ _ _ _ _ _ us hl => match us, hl with | [_, _], _ => rfl
  have Cx6 : ∀ base : Heap, K.In base → base.Ns mainGlobals mg → WP.Callee l.prog w K mg base CX0 1 "_law_cell" ["script", "k"] (sp__law_cell K mg) := fun base p1 p2 => WP.Callee.mk' (ok__law_cell Fx6 B ) (PySem.W.mg_of X G ax6) kx6 bx6
  have Fx7 := fun_mk (st := s__law_kinds) lx7 cx7 kx7
  have bx7 := Fx7.binds (ps := ["e"]) fun _ _ _ _ _ _ us hl => match us, hl with | [_], _ => rfl
  have Cx7 : ∀ base : Heap, K.In base → base.Ns mainGlobals mg → WP.Callee l.prog w K mg base CX0 1 "_law_kinds" ["e"] (sp__law_kinds K mg) := fun base p1 p2 => WP.Callee.mk' (ok__law_kinds Fx7 B ) (PySem.W.mg_of X G ax7) kx7 bx7
  have Fx8 := fun_mk (st := s_law) lx8 cx8 kx8
  exact ⟨PySem.W.fnOf "law" "law" (defArgs s_law) (defBody s_law) (defScope s_law) .none kVx8 dcx8 pmx8 anx8 cdx8 ctx8, fun s v => .of_eq rfl, fun base p1 p2 => ok_law Fx8 B (Cx0 base p1 p2) (Cx1 base p1 p2) (Cx2 base p1 p2) (Cx3 base p1 p2) (Cx4 base p1 p2) (Cx5 base p1 p2) (Cx6 base p1 p2) (Cx7 base p1 p2)⟩
theorem walk {l : PySem.W.OpenLaw} {q : Program} {loose : List Str} {XP : (Str → Option Value) → Heap → Prop} {YP : World → Heap → Prop} {d : DefRec} {K : Params → PySem.W.Frag} (hn : l.most = some 63) (hdf : d.params.defaults = [])
    (hY : ∀ (w : World) (h : Heap), YP w h → (K w.params).In h)
    (F : ∀ (w : World) (mg : Str → Option Value) (fa : Addr) (h : Heap), (K w.params).In h → h.Ns mainGlobals mg → mg d.name = some (.ref fa) →
      ∃ fd : FuncData, (∀ (s : Shared) (u : Value), BindsTo s fd ⟨[u], []⟩ [("script", u)]) ∧ ∀ base : Heap, (K w.params).In base → base.Ns mainGlobals mg → FnOk l.prog w (K w.params) mg base CX0 3 fa fd ["script"] (sp_law (K w.params))) :
    PySem.W.WalkO q loose XP YP l.row.toRowW d [] (fun f vs => PySem.call f vs) :=
  L2.walk_of (n := 63) (k := 3) (x := "script") (CX := fun _ => CX0) (sp := fun w => sp_law (K w.params)) hn (by decide) hdf ⟨rfl, by decide, by decide⟩ hY F (fun _ _ a ns hl _ hS => ⟨a, ns, rfl, hS, hl, fun _ => rfl⟩) fun _ _ _ _ _ z => z
end D
open PySem PySem.W PyProof.Rows
set_option maxRecDepth 100000 in
set_option maxHeartbeats 0 in
theorem PySem.Challenge.cw_cardwright_k00_errors_and_limits_holds : PySem.Challenge.rw_cardwright_k00_errors_and_limits.Holds := by
  w_on; o_law; k_head; (case hw => w_witness2)
  k_fill
  refine D.walk (l := PySem.Challenge.rw_cardwright_k00_errors_and_limits) rfl rfl (fun w h Y => PySem.W.kIn_of Y) ?F
  case F =>
    intro w mg fa h KX G hmg
    refine' D.all_mk KX G hmg ?on_BadCode ?xo_BadCode ?xx_BadCode ?xc_BadCode ?ot_BadCode_0 ?ot_BadCode_1 ?on_BadData ?xo_BadData ?xx_BadData ?xc_BadData ?ot_BadData_0 ?ot_BadData_1 ?on_BadJob ?xo_BadJob ?xx_BadJob ?xc_BadJob ?ot_BadJob_0 ?on_BadPart ?xo_BadPart ?xx_BadPart ?xc_BadPart ?ot_BadPart_0 ?ot_BadPart_1 ?on_BadProgram ?xo_BadProgram ?xx_BadProgram ?xc_BadProgram ?ot_BadProgram_0 ?ot_BadProgram_1 ?on_Halt ?xo_Halt ?xx_Halt ?xc_Halt ?ot_Halt_0 ?ax0 ?ix0 ?lx0 ?cx0 ?kx0 ?tfx0 ?ax1 ?ix1 ?lx1 ?cx1 ?kx1 ?tfx1 ?ax2 ?ix2 ?lx2 ?cx2 ?kx2 ?tfx2 ?ax3 ?ix3 ?lx3 ?cx3 ?kx3 ?tfx3 ?ax4 ?ix4 ?lx4 ?cx4 ?kx4 ?tfx4 ?ax5 ?ix5 ?lx5 ?cx5 ?kx5 ?tfx5 ?ax6 ?lx6 ?cx6 ?kx6 ?ax7 ?lx7 ?cx7 ?kx7 ?ax8 ?lx8 ?cx8 ?kx8 ?z_ValueError ?z_int ?z_isinstance ?z_len ?z_range ?g_MOST_CALLS ?g_MOST_DEPTH ?g_MOST_DIGITS ?g_MOST_LEVEL ?g_MOST_LINE ?g_MOST_NAME ?g_MOST_NEST ?g_MOST_PROGRAM ?g_MOST_SCALE ?g_MOST_STEPS ?g_MOST_STORAGE ?g_MOST_TEXT ?g_MOST_TIMES ?n_BadDecimal ?x_BadDecimal ?kc_BadDecimal ?tc_BadDecimal ?hg_BadDecimal ?hk_BadDecimal ?hs_BadDecimal ?hd_BadDecimal ?ha_BadDecimal ?hm_BadDecimal ?n_BadPicture ?x_BadPicture ?kc_BadPicture ?tc_BadPicture ?hg_BadPicture ?hk_BadPicture ?hs_BadPicture ?hd_BadPicture ?ha_BadPicture ?hm_BadPicture ?n_CardError ?x_CardError ?kc_CardError ?tc_CardError ?hg_CardError ?hk_CardError ?hs_CardError ?hd_CardError ?ha_CardError ?hm_CardError ?hn_ ?ht_ ?t_BadCode_ValueError ?t_BadData_ValueError ?t_BadDecimal_ValueError ?t_BadJob_ValueError ?t_BadPart_ValueError ?t_BadPicture_ValueError ?t_BadProgram_ValueError ?t_Halt_ValueError ?i_BadCode_BadCode ?i_BadCode_BadData ?i_BadCode_BadDecimal ?i_BadCode_BadJob ?i_BadCode_BadPart ?i_BadCode_BadPicture ?i_BadCode_BadProgram ?i_BadCode_CardError ?i_BadCode_Halt ?i_BadData_BadCode ?i_BadData_BadData ?i_BadData_BadDecimal ?i_BadData_BadJob ?i_BadData_BadPart ?i_BadData_BadPicture ?i_BadData_BadProgram ?i_BadData_CardError ?i_BadData_Halt ?i_BadDecimal_BadCode ?i_BadDecimal_BadData ?i_BadDecimal_BadDecimal ?i_BadDecimal_BadJob ?i_BadDecimal_BadPart ?i_BadDecimal_BadPicture ?i_BadDecimal_BadProgram ?i_BadDecimal_CardError ?i_BadDecimal_Halt ?i_BadJob_BadCode ?i_BadJob_BadData ?i_BadJob_BadDecimal ?i_BadJob_BadJob ?i_BadJob_BadPart ?i_BadJob_BadPicture ?i_BadJob_BadProgram ?i_BadJob_CardError ?i_BadJob_Halt ?i_BadPart_BadCode ?i_BadPart_BadData ?i_BadPart_BadDecimal ?i_BadPart_BadJob ?i_BadPart_BadPart ?i_BadPart_BadPicture ?i_BadPart_BadProgram ?i_BadPart_CardError ?i_BadPart_Halt ?i_BadPicture_BadCode ?i_BadPicture_BadData ?i_BadPicture_BadDecimal ?i_BadPicture_BadJob ?i_BadPicture_BadPart ?i_BadPicture_BadPicture ?i_BadPicture_BadProgram ?i_BadPicture_CardError ?i_BadPicture_Halt ?i_BadProgram_BadCode ?i_BadProgram_BadData ?i_BadProgram_BadDecimal ?i_BadProgram_BadJob ?i_BadProgram_BadPart ?i_BadProgram_BadPicture ?i_BadProgram_BadProgram ?i_BadProgram_CardError ?i_BadProgram_Halt ?i_Halt_BadCode ?i_Halt_BadData ?i_Halt_BadDecimal ?i_Halt_BadJob ?i_Halt_BadPart ?i_Halt_BadPicture ?i_Halt_BadProgram ?i_Halt_CardError ?i_Halt_Halt
    (case on_BadCode => k_is); (case xo_BadCode => exact ⟨⟨_, _, _, _, _, _, _, _, _, _, _, _, _, _, _, by k_is, by decide +kernel⟩, by k_is, by k_is, by k_is, by k_is⟩); (case xx_BadCode => exact ⟨by k_is, by k_is, by k_is, by k_is⟩); (case xc_BadCode => exact ⟨by k_is, by k_is, by k_is, by k_is, by k_is, by k_is, by k_is, by k_is⟩); (case ot_BadCode_0 => k_is); (case ot_BadCode_1 => k_is)
    (case on_BadData => k_is); (case xo_BadData => exact ⟨⟨_, _, _, _, _, _, _, _, _, _, _, _, _, _, _, by k_is, by decide +kernel⟩, by k_is, by k_is, by k_is, by k_is⟩); (case xx_BadData => exact ⟨by k_is, by k_is, by k_is, by k_is⟩); (case xc_BadData => exact ⟨by k_is, by k_is, by k_is, by k_is, by k_is, by k_is, by k_is, by k_is⟩); (case ot_BadData_0 => k_is); (case ot_BadData_1 => k_is)
    (case on_BadJob => k_is); (case xo_BadJob => exact ⟨⟨_, _, _, _, _, _, _, _, _, _, _, _, _, _, _, by k_is, by decide +kernel⟩, by k_is, by k_is, by k_is, by k_is⟩); (case xx_BadJob => exact ⟨by k_is, by k_is, by k_is, by k_is⟩); (case xc_BadJob => exact ⟨by k_is, by k_is, by k_is, by k_is, by k_is, by k_is, by k_is, by k_is⟩); (case ot_BadJob_0 => k_is); (case on_BadPart => k_is)
    (case xo_BadPart => exact ⟨⟨_, _, _, _, _, _, _, _, _, _, _, _, _, _, _, by k_is, by decide +kernel⟩, by k_is, by k_is, by k_is, by k_is⟩); (case xx_BadPart => exact ⟨by k_is, by k_is, by k_is, by k_is⟩); (case xc_BadPart => exact ⟨by k_is, by k_is, by k_is, by k_is, by k_is, by k_is, by k_is, by k_is⟩); (case ot_BadPart_0 => k_is); (case ot_BadPart_1 => k_is); (case on_BadProgram => k_is)
    (case xo_BadProgram => exact ⟨⟨_, _, _, _, _, _, _, _, _, _, _, _, _, _, _, by k_is, by decide +kernel⟩, by k_is, by k_is, by k_is, by k_is⟩); (case xx_BadProgram => exact ⟨by k_is, by k_is, by k_is, by k_is⟩); (case xc_BadProgram => exact ⟨by k_is, by k_is, by k_is, by k_is, by k_is, by k_is, by k_is, by k_is⟩); (case ot_BadProgram_0 => k_is); (case ot_BadProgram_1 => k_is); (case on_Halt => k_is)
    (case xo_Halt => exact ⟨⟨_, _, _, _, _, _, _, _, _, _, _, _, _, _, _, by k_is, by decide +kernel⟩, by k_is, by k_is, by k_is, by k_is⟩); (case xx_Halt => exact ⟨by k_is, by k_is, by k_is, by k_is⟩); (case xc_Halt => exact ⟨by k_is, by k_is, by k_is, by k_is, by k_is, by k_is, by k_is, by k_is⟩); (case ot_Halt_0 => k_is); (case ax0 => k_is); (case ix0 => k_is)
    (case lx0 => k_is); (case cx0 => k_is); (case kx0 => k_is); (case tfx0 => k_is); (case ax1 => k_is); (case ix1 => k_is)
    (case lx1 => k_is); (case cx1 => k_is); (case kx1 => k_is); (case tfx1 => k_is); (case ax2 => k_is); (case ix2 => k_is)
    (case lx2 => k_is); (case cx2 => k_is); (case kx2 => k_is); (case tfx2 => k_is); (case ax3 => k_is); (case ix3 => k_is)
    (case lx3 => k_is); (case cx3 => k_is); (case kx3 => k_is); (case tfx3 => k_is); (case ax4 => k_is); (case ix4 => k_is)
    (case lx4 => k_is); (case cx4 => k_is); (case kx4 => k_is); (case tfx4 => k_is); (case ax5 => k_is); (case ix5 => k_is)
    (case lx5 => k_is); (case cx5 => k_is); (case kx5 => k_is); (case tfx5 => k_is); (case ax6 => k_is); (case lx6 => k_is)
    (case cx6 => k_is); (case kx6 => k_is); (case ax7 => k_is); (case lx7 => k_is); (case cx7 => k_is); (case kx7 => k_is)
    (case ax8 => k_is); (case lx8 => k_is); (case cx8 => k_is); (case kx8 => k_is); (case z_ValueError => k_is); (case z_int => k_is)
    (case z_isinstance => k_is); (case z_len => k_is); (case z_range => k_is); (case g_MOST_CALLS => k_is); (case g_MOST_DEPTH => k_is); (case g_MOST_DIGITS => k_is)
    (case g_MOST_LEVEL => k_is); (case g_MOST_LINE => k_is); (case g_MOST_NAME => k_is); (case g_MOST_NEST => k_is); (case g_MOST_PROGRAM => k_is); (case g_MOST_SCALE => k_is)
    (case g_MOST_STEPS => k_is); (case g_MOST_STORAGE => k_is); (case g_MOST_TEXT => k_is); (case g_MOST_TIMES => k_is); (case n_BadDecimal => k_is); (case x_BadDecimal => k_exc)
    (case kc_BadDecimal => k_is); (case tc_BadDecimal => k_is); (case hg_BadDecimal => k_is); (case hk_BadDecimal => k_is); (case hs_BadDecimal => k_is); (case hd_BadDecimal => k_is)
    (case ha_BadDecimal => k_is); (case hm_BadDecimal => k_is); (case n_BadPicture => k_is); (case x_BadPicture => k_exc); (case kc_BadPicture => k_is); (case tc_BadPicture => k_is)
    (case hg_BadPicture => k_is); (case hk_BadPicture => k_is); (case hs_BadPicture => k_is); (case hd_BadPicture => k_is); (case ha_BadPicture => k_is); (case hm_BadPicture => k_is)
    (case n_CardError => k_is); (case x_CardError => k_exc); (case kc_CardError => k_is); (case tc_CardError => k_is); (case hg_CardError => k_is); (case hk_CardError => k_is)
    (case hs_CardError => k_is); (case hd_CardError => k_is); (case ha_CardError => k_is); (case hm_CardError => k_is); (case hn_ => k_is); (case ht_ => k_is)
    (case t_BadCode_ValueError => first | kit_is | k_is); (case t_BadData_ValueError => first | kit_is | k_is); (case t_BadDecimal_ValueError => first | kit_is | k_is); (case t_BadJob_ValueError => first | kit_is | k_is); (case t_BadPart_ValueError => first | kit_is | k_is); (case t_BadPicture_ValueError => first | kit_is | k_is)
    (case t_BadProgram_ValueError => first | kit_is | k_is); (case t_Halt_ValueError => first | kit_is | k_is); (case i_BadCode_BadCode => kit_is); (case i_BadCode_BadData => kit_is); (case i_BadCode_BadDecimal => kit_is); (case i_BadCode_BadJob => kit_is)
    (case i_BadCode_BadPart => kit_is); (case i_BadCode_BadPicture => kit_is); (case i_BadCode_BadProgram => kit_is); (case i_BadCode_CardError => kit_is); (case i_BadCode_Halt => kit_is); (case i_BadData_BadCode => kit_is)
    (case i_BadData_BadData => kit_is); (case i_BadData_BadDecimal => kit_is); (case i_BadData_BadJob => kit_is); (case i_BadData_BadPart => kit_is); (case i_BadData_BadPicture => kit_is); (case i_BadData_BadProgram => kit_is)
    (case i_BadData_CardError => kit_is); (case i_BadData_Halt => kit_is); (case i_BadDecimal_BadCode => kit_is); (case i_BadDecimal_BadData => kit_is); (case i_BadDecimal_BadDecimal => kit_is); (case i_BadDecimal_BadJob => kit_is)
    (case i_BadDecimal_BadPart => kit_is); (case i_BadDecimal_BadPicture => kit_is); (case i_BadDecimal_BadProgram => kit_is); (case i_BadDecimal_CardError => kit_is); (case i_BadDecimal_Halt => kit_is); (case i_BadJob_BadCode => kit_is)
    (case i_BadJob_BadData => kit_is); (case i_BadJob_BadDecimal => kit_is); (case i_BadJob_BadJob => kit_is); (case i_BadJob_BadPart => kit_is); (case i_BadJob_BadPicture => kit_is); (case i_BadJob_BadProgram => kit_is)
    (case i_BadJob_CardError => kit_is); (case i_BadJob_Halt => kit_is); (case i_BadPart_BadCode => kit_is); (case i_BadPart_BadData => kit_is); (case i_BadPart_BadDecimal => kit_is); (case i_BadPart_BadJob => kit_is)
    (case i_BadPart_BadPart => kit_is); (case i_BadPart_BadPicture => kit_is); (case i_BadPart_BadProgram => kit_is); (case i_BadPart_CardError => kit_is); (case i_BadPart_Halt => kit_is); (case i_BadPicture_BadCode => kit_is)
    (case i_BadPicture_BadData => kit_is); (case i_BadPicture_BadDecimal => kit_is); (case i_BadPicture_BadJob => kit_is); (case i_BadPicture_BadPart => kit_is); (case i_BadPicture_BadPicture => kit_is); (case i_BadPicture_BadProgram => kit_is)
    (case i_BadPicture_CardError => kit_is); (case i_BadPicture_Halt => kit_is); (case i_BadProgram_BadCode => kit_is); (case i_BadProgram_BadData => kit_is); (case i_BadProgram_BadDecimal => kit_is); (case i_BadProgram_BadJob => kit_is)
    (case i_BadProgram_BadPart => kit_is); (case i_BadProgram_BadPicture => kit_is); (case i_BadProgram_BadProgram => kit_is); (case i_BadProgram_CardError => kit_is); (case i_BadProgram_Halt => kit_is); (case i_Halt_BadCode => kit_is)
    (case i_Halt_BadData => kit_is); (case i_Halt_BadDecimal => kit_is); (case i_Halt_BadJob => kit_is); (case i_Halt_BadPart => kit_is); (case i_Halt_BadPicture => kit_is); (case i_Halt_BadProgram => kit_is)
    (case i_Halt_CardError => kit_is); (case i_Halt_Halt => kit_is)
#print axioms PySem.Challenge.cw_cardwright_k00_errors_and_limits_holds
