import PyProof.Rows.All
import Wide.All
import OpenK.AllK
import Wide.FinOn
import HandS.ForMost
import HandS.Wide
import HandS.IsInst
import HandS.Evl
import HandS.ForExc
import HandS.ExcIs
import HandS.WideBits
import HandS.AnyAll
import HandS.Codes
import HandS.Comp
import HandS.Dict
import HandS.EndTab
import HandS.Iter
import HandS.MapJoin
import HandS.MapObj
import HandS.More
import HandS.ReplaceDef
import HandS.ReplaceLit
import HandS.Rev
import HandS.RevTup
import HandS.StrMore
import HandS.Text
import HandS.Walk
import PySem.Challenge.RW_cardwright_k04_texts_of_decimals
set_option Elab.async false
set_option linter.all false
set_option maxRecDepth 100000
set_option maxHeartbeats 4000000
namespace WP
open PySem PySem.Spec PyProof.Rows L2

/-! ### a def that may be called -/
structure Callee (P : Program) (w : World) (K : PySem.W.Frag) (mg : Str → Option Value) (base : Heap) (CX : CXT) (lv : Nat) (nm : Str) (ps : List Str) (sp : Sp) : Prop where
  ex : ∃ (f : Addr) (fd : FuncData), FnOk P w K mg base CX lv f fd ps sp ∧ mg nm = some (.ref f) ∧ PySem.W.keepIn K (.ref f) = true ∧ Binds K fd ps []
theorem Callee.mk' {P : Program} {w : World} {K : PySem.W.Frag} {mg : Str → Option Value} {base : Heap} {CX : CXT} {lv : Nat} {nm : Str} {ps : List Str} {sp : Sp} {f : Addr} {fd : FuncData}
    (h : FnOk P w K mg base CX lv f fd ps sp) (m : mg nm = some (.ref f)) (k : PySem.W.keepIn K (.ref f) = true) (b : Binds K fd ps []) : Callee P w K mg base CX lv nm ps sp := ⟨⟨f, fd, h, m, k, b⟩⟩
section
variable {X : Cx} {CX : CXT} {k j : Nat} {ps : List Str} {sp : Sp} {E : XK} {x : Str} {p pos : Pos} {e : Expr} {es : List Expr} {t : TA}
theorem pe_callC (C : Callee X.prog X.w X.K X.mg X.base CX k x ps sp) (hr : Room j X.A) (hg : Gl X x) (hx : Passes CX X E) (ha : PA X (e :: es) t) (hl : k ≤ j := by decide)
    (hdb : (x == ("__debug__" : Str)) = false := by decide) (he : starEach (e :: es) X.env = (false, eval e X.env) :: starEach es X.env := by rfl) (hpl : (backTo pos (starEach es X.env)).any (·.1) = false := by rfl) :
    PE X (.Call (.Name x p) (e :: es) [] pos) (tCall sp [] E t) := by
  obtain ⟨f, fd, F, hm, hk, hb⟩ := C.ex
  exact pe_call F (hr.mono hl) hg hm hk hb .nil hx ha hdb he hpl
theorem pe_callC0 (C : Callee X.prog X.w X.K X.mg X.base CX k x ps sp) (hr : Room j X.A) (hg : Gl X x) (hx : Passes CX X E) (hl : k ≤ j := by decide)
    (hdb : (x == ("__debug__" : Str)) = false := by decide) : PE X (.Call (.Name x p) [] [] pos) (tCall sp [] E tNil) := by
  obtain ⟨f, fd, F, hm, hk, hb⟩ := C.ex
  exact pe_call0 F (hr.mono hl) hg hm hk hb .nil hx hdb
end

/-! ### readings, a step at a time -/
section
variable {σ : L2.St} {H : Hp} {D : Ends} {t u : TS} {te ta tb : TE} {tt tu : TT} {g : TG} {Q : VK} {QB : Bool → Hp → Prop} {QA : List V → Hp → Prop} {r : R2} {i j : Int} {n : Nat} {v x y : V}
theorem seq (h : t { D with nx := u D } σ H) : tSeq t u D σ H := h
theorem asg (h : te σ H fun x H1 => g x σ H1 D.nx) : tAsg te g D σ H := h
theorem name {QS : L2.St → Hp → Prop} (h : QS (σ.set n (some v)) H) : gName n v σ H QS := h
theorem var (e : σ[n]? = some (some v)) (h : Q v H) : tVar n σ H Q := ⟨v, e, h⟩
theorem con (h : Q v H) : tC v σ H Q := h
theorem op (h : ta σ H fun x H1 => tb σ H1 fun y H2 => r x y H2 Q) : tOp r ta tb σ H Q := h
theorem un {ru : V → Hp → VK → Prop} (h : ta σ H fun x H1 => ru x H1 Q) : tUn ru ta σ H Q := h
theorem rU_ {g : Int → V} (h : Q (g i) H) : rU g (.int i) H Q := ⟨i, rfl, h⟩
theorem i0 {g : Int → Int → V} (h : Q (g i j) H) : rI0 g (.int i) (.int j) H Q := ⟨i, j, rfl, rfl, h⟩
theorem iC {C : Int → Int → Prop} {g : Int → Int → V} (c : C i j) (h : Q (g i j) H) : rI C g (.int i) (.int j) H Q := ⟨i, j, rfl, rfl, c, h⟩
theorem eqS (s : scal x y = true) (h : Q (.bl (decide (x = y))) H) : rEq x y H Q := ⟨s, h⟩
theorem neS (s : scal x y = true) (h : Q (.bl (!decide (x = y))) H) : rNe x y H Q := ⟨s, h⟩
theorem ifS (h : tt σ H fun b H1 => if b = true then t D σ H1 else u D σ H1) : tIfS tt t u D σ H := h
theorem ifE (h : tt σ H fun b H1 => if b = true then ta σ H1 Q else tb σ H1 Q) : tIf tt ta tb σ H Q := h
theorem test (h : te σ H fun x H1 => ∃ k, x = .bl k ∧ QB k H1) : tTest te σ H QB := h
theorem bt (h : te σ H fun x H1 => ∃ k, x = .bl k ∧ QB k H1) : tB te σ H QB := h
theorem isb {b : Bool} (h : QB b H) : ∃ k, V.bl b = V.bl k ∧ QB k H := ⟨b, rfl, h⟩
theorem ret (h : te σ H D.rt) : tRet te D σ H := h
theorem retN (h : D.rt .non H) : tRetN D σ H := h
theorem drop (h : te σ H fun _ H1 => D.nx σ H1) : tDrop te D σ H := h
theorem next (h : D.nx σ H) : tNext D σ H := h
theorem brk (h : D.bk σ H) : tBreak D σ H := h
theorem cont (h : D.ct σ H) : tCont D σ H := h
theorem cb {rc : List V → Hp → VK → Prop} {a : TA} (h : a σ H fun vs H1 => rc vs H1 Q) : tCB rc a σ H Q := h
theorem call {sp : Sp} {E : XK} {a : TA} (h : a σ H fun vs H1 => sp (vs ++ []) H1 Q E) : tCall sp [] E a σ H Q := h
theorem cons {a : TA} (h : te σ H fun x H1 => a σ H1 fun xs H2 => QA (x :: xs) H2) : tCons te a σ H QA := h
theorem nil (h : QA [] H) : tNil σ H QA := h
theorem tup {a : TA} (h : a σ H fun xs H1 => xs.length ≤ sizeLine ∧ ∀ p, H1 p = none → Q (.ref p) (upd H1 p (.tup xs))) : tTup a σ H Q := h
theorem lst {a : TA} (h : a σ H fun xs H1 => xs.length ≤ sizeLine ∧ ∀ p, H1 p = none → Q (.ref p) (upd H1 p (.lst xs))) : tLst a σ H Q := h
theorem notT (h : tt σ H fun c H1 => QB (!c) H1) : tNot tt σ H QB := h
theorem andT (h : tt σ H fun c H1 => if c = true then tu σ H1 QB else QB false H1) : tAnd tt tu σ H QB := h
theorem orT (h : tt σ H fun c H1 => if c = true then QB true H1 else tu σ H1 QB) : tOr tt tu σ H QB := h
theorem andV (h : ta σ H fun x H1 => ∃ c, x = .bl c ∧ if c = true then tb σ H1 Q else Q (.bl false) H1) : tAndV ta tb σ H Q := h
theorem orV (h : ta σ H fun x H1 => ∃ c, x = .bl c ∧ if c = true then Q (.bl true) H1 else tb σ H1 Q) : tOrV ta tb σ H Q := h
theorem notV (h : ta σ H fun x H1 => ∃ c, x = .bl c ∧ Q (.bl (!c)) H1) : tNotV ta σ H Q := h
theorem isbV {b : Bool} {R : Bool → Prop} (h : R b) : ∃ k, V.bl b = V.bl k ∧ R k := ⟨b, rfl, h⟩
theorem sl {r : V → Option Int → Option Int → Hp → VK → Prop} {tl th : TO} (h : te σ H fun x H1 => tl σ H1 fun l H2 => th σ H2 fun u H3 => r x l u H3 Q) : tSl r te tl th σ H Q := h
theorem noPart {QO : Option Int → Hp → Prop} (h : QO none H) : tNoPart σ H QO := h
theorem part {QO : Option Int → Hp → Prop} (h : te σ H fun x H1 => ∃ i, x = .int i ∧ QO (some i) H1) : tPart te σ H QO := h
theorem isi {R : Int → Prop} (h : R i) : ∃ k, V.int i = V.int k ∧ R k := ⟨i, rfl, h⟩
/-- tests -/
theorem br {c A B : Prop} [Decidable c] (h1 : c → A) (h2 : ¬ c → B) : if decide c = true then A else B := by
  by_cases h : c
  · rw [decide_eq_true h, if_pos rfl]; exact h1 h
  · rw [decide_eq_false h, if_neg Bool.false_ne_true]; exact h2 h
theorem brN {c A B : Prop} [Decidable c] (h1 : ¬ c → A) (h2 : c → B) : if (!decide c) = true then A else B := by
  by_cases h : c
  · rw [decide_eq_true h]; exact iteF (h2 h)
  · rw [decide_eq_false h]; exact iteT (h1 h)
theorem brT {b : Bool} {A B : Prop} (e : b = true) (h : A) : if b = true then A else B := by rw [if_pos e]; exact h
theorem brF {b : Bool} {A B : Prop} (e : b = false) (h : B) : if b = true then A else B := by rw [if_neg (by rw [e]; exact Bool.false_ne_true)]; exact h
theorem brB {b : Bool} {A B : Prop} (h1 : b = true → A) (h2 : b = false → B) : if b = true then A else B := by
  cases b
  · exact iteF (h2 rfl)
  · exact iteT (h1 rfl)
theorem dec_int {i j : Int} : decide (V.int i = V.int j) = decide (i = j) := by
  by_cases h : i = j
  · rw [decide_eq_true h, decide_eq_true (congrArg V.int h)]
  · rw [decide_eq_false h, decide_eq_false fun e => h (V.int.inj e)]
theorem dec_str {i j : Str} : decide (V.str i = V.str j) = decide (i = j) := by
  by_cases h : i = j
  · rw [decide_eq_true h, decide_eq_true (congrArg V.str h)]
  · rw [decide_eq_false h, decide_eq_false fun e => h (V.str.inj e)]
theorem dec_bl {i j : Bool} : decide (V.bl i = V.bl j) = decide (i = j) := by
  by_cases h : i = j
  · rw [decide_eq_true h, decide_eq_true (congrArg V.bl h)]
  · rw [decide_eq_false h, decide_eq_false fun e => h (V.bl.inj e)]
theorem eqI (h : Q (.bl (decide (i = j))) H) : rEq (.int i) (.int j) H Q := ⟨rfl, by rw [dec_int]; exact h⟩
theorem neI (h : Q (.bl (!decide (i = j))) H) : rNe (.int i) (.int j) H Q := ⟨rfl, by rw [dec_int]; exact h⟩
theorem eqT {a b : Str} (h : Q (.bl (decide (a = b))) H) : rEq (.str a) (.str b) H Q := ⟨rfl, by rw [dec_str]; exact h⟩
theorem neT {a b : Str} (h : Q (.bl (!decide (a = b))) H) : rNe (.str a) (.str b) H Q := ⟨rfl, by rw [dec_str]; exact h⟩
theorem eqB {a b : Bool} (h : Q (.bl (decide (a = b))) H) : rEq (.bl a) (.bl b) H Q := ⟨rfl, by rw [dec_bl]; exact h⟩
theorem neB {a b : Bool} (h : Q (.bl (!decide (a = b))) H) : rNe (.bl a) (.bl b) H Q := ⟨rfl, by rw [dec_bl]; exact h⟩
end
/-! ### numbers of a known number of bits -/
theorem sz2 : (2 : Nat) ≤ sizeLine := by rw [sizeLine_eq]; decide
theorem sz {n : Nat} (h : n ≤ 1000000) : n ≤ sizeLine := by rw [sizeLine_eq]; omega
end WP
namespace WP
open PySem PySem.Spec PyProof.Rows L2
section
variable {X : Cx} {x : Str} {v : V} {pos : Pos}
theorem pe_const (hg : Gl X x) (h : ∃ u, X.mg x = some u ∧ RelV v u) (hd : (x == ("__debug__" : Str)) = false := by decide) : PE X (.Name x pos) (tC v) := by
  obtain ⟨u, hm, r⟩ := h
  exact pe_glob hg hm r hd
end
/-- a number of at most a bits -/
def Bt (i : Int) (a : Nat) : Prop := i.natAbs < 2 ^ a
theorem Bt.mono {i : Int} {a b : Nat} (h : Bt i a) (l : a ≤ b) : Bt i b := Nat.lt_of_lt_of_le h (Nat.pow_le_pow_right (by decide) l)
theorem Bt.mul {i j : Int} {a b : Nat} (h : Bt i a) (k : Bt j b) : Bt (i * j) (a + b) := wide_lt h k
theorem Bt.neg {i : Int} {a : Nat} (h : Bt i a) : Bt (-i) a := by unfold Bt at *; rw [Int.natAbs_neg]; exact h
theorem Bt.add {i j : Int} {a : Nat} (h : Bt i a) (k : Bt j a) : Bt (i + j) (a + 1) := by
  unfold Bt at *
  have := Int.natAbs_add_le i j
  rw [Nat.pow_succ]; omega
theorem Bt.sub {i j : Int} {a : Nat} (h : Bt i a) (k : Bt j a) : Bt (i - j) (a + 1) := by
  rw [Int.sub_eq_add_neg]; exact h.add k.neg
theorem Bt.le {i j : Int} {a : Nat} (h : Bt i a) (k : j.natAbs ≤ i.natAbs) : Bt j a := Nat.lt_of_le_of_lt k h
theorem Bt.ten (n : Nat) : Bt (10 ^ n) (4 * n + 1) := by
  unfold Bt
  have e : ((10 : Int) ^ n).natAbs = 10 ^ n := by rw [Int.natAbs_pow]; rfl
  rw [e]
  have h : 10 ^ n ≤ 16 ^ n := Nat.pow_le_pow_left (by decide) n
  have h2 : (16 : Nat) ^ n = 2 ^ (4 * n) := by rw [show (16 : Nat) = 2 ^ 4 from rfl, ← Nat.pow_mul]
  rw [h2] at h
  rw [Nat.pow_succ]
  have : 0 < 2 ^ (4 * n) := Nat.pow_pos (by decide)
  omega
theorem Bt.w {i j : Int} {a b : Nat} (h : Bt i a) (k : Bt j b) (l : a + b ≤ 999998 := by omega) : CMulW i j :=
  wide_mul (h.mono (Nat.le_succ a)) (k.mono (Nat.le_succ b)) (Nat.succ_pos _) (Nat.succ_pos _) (by omega)
theorem Bt.d {j : Int} {b : Nat} (h : 0 < j) (k : Bt j b) (l : b ≤ 8999 := by omega) : CDivW 0 j := wide_div h (k.mono (Nat.le_succ b)) (Nat.succ_pos _) (by omega)
theorem Bt.d' {i j : Int} {b : Nat} (h : 0 < j) (k : Bt j b) (l : b ≤ 8999 := by omega) : CDivW i j := Bt.d h k l
theorem ten_pos (n : Nat) : (0 : Int) < 10 ^ n := Int.pow_pos (by decide)
end WP
namespace WP
open PySem PySem.Spec PyProof.Rows L2
/-! ### what comes back -/
def RetT (xs : List V) (H : Hp) (Q : VK) : Prop := ∀ p H', Same H H' → H' p = some (.tup xs) → Q (.ref p) H'
def RetL (xs : List V) (H : Hp) (Q : VK) : Prop := ∀ p H', H p = none → Same H H' → H' p = some (.lst xs) → Q (.ref p) H'
def RetV (v : V) (H : Hp) (Q : VK) : Prop := ∀ H', Same H H' → Q v H'
theorem same_new {H : Hp} {p : Addr} {o : HO} (h : H p = none) : Same H (upd H p o) := fun b u e => by
  rw [upd_ne (ne_of_none e h)]; exact e
theorem same_mut {H H' : Hp} {p : Addr} {o : HO} (e : Same H H') (h : H p = none) : Same H (upd H' p o) := fun a u ha => by
  rw [upd_ne (ne_of_none ha h)]; exact e a u ha
theorem sqt {K : PySem.W.Frag} {H H' : Hp} {a : Addr} {xs : List V} (e : Same H H') (h : SqT K H a xs) : SqT K H' a xs := by
  rcases h with (h | ⟨o, h⟩) | h
  · exact .inl (.inl (e _ _ h))
  · exact .inl (.inr ⟨o, e _ _ h⟩)
  · exact .inr h
theorem RetT.new {xs : List V} {H H' : Hp} {Q : VK} (k : RetT xs H Q) (e : Same H H') : ∀ p, H' p = none → Q (.ref p) (upd H' p (.tup xs)) := fun p hp =>
  k p _ (e.trans (same_new hp)) upd_same
theorem RetL.new {xs : List V} {H H' : Hp} {Q : VK} (k : RetL xs H Q) (e : Same H H') : ∀ p, H' p = none → Q (.ref p) (upd H' p (.lst xs)) := fun p hp =>
  k p _ (e.free hp) (e.trans (same_new hp)) upd_same
/-- a decimal's two parts -/
abbrev dv (u : Int) (s : Nat) : List V := [.int u, .int (s : Int)]
theorem at0 {α : Type} {x : α} {xs : List α} : atI (x :: xs) (0 : Int) = some x := atI_nat (j := 0) rfl
theorem at1 {α : Type} {x y : α} {xs : List α} : atI (x :: y :: xs) (1 : Int) = some y := atI_nat (j := 1) rfl
theorem at2 {α : Type} {x y z : α} {xs : List α} : atI (x :: y :: z :: xs) (2 : Int) = some z := atI_nat (j := 2) rfl
theorem at3 {α : Type} {x y z u : α} {xs : List α} : atI (x :: y :: z :: u :: xs) (3 : Int) = some u := atI_nat (j := 3) rfl
theorem at4 {α : Type} {x y z u v : α} {xs : List α} : atI (x :: y :: z :: u :: v :: xs) (4 : Int) = some v := atI_nat (j := 4) rfl
section
variable {K : PySem.W.Frag} {H : Hp} {p : Addr} {xs : List V} {v : V} {i : Int} {Q : VK}
theorem ixT (h : SqT K H p xs) (a : atI xs i = some v) (q : Q v H) : rIxT K (.ref p) (.int i) H Q := ⟨p, xs, i, v, rfl, rfl, h, a, q⟩
theorem ixL (h : SqL K H p xs) (a : atI xs i = some v) (q : Q v H) : rIxL K (.ref p) (.int i) H Q := ⟨p, xs, i, v, rfl, rfl, h, a, q⟩
theorem unT {n : Nat} {t : TGs} {σ : L2.St} {QS : L2.St → Hp → Prop} (h : SqT K H p xs) (l : xs.length = n) (q : t xs σ H QS) : gTup K n t (.ref p) σ H QS := ⟨p, xs, rfl, h, l, q⟩
theorem gsCons {g : TG} {gs : TGs} {x : V} {r : List V} {σ : L2.St} {QS : L2.St → Hp → Prop} (q : g x σ H fun σ' H' => gs r σ' H' QS) : gCons g gs (x :: r) σ H QS := ⟨x, r, rfl, q⟩
theorem gsNil {σ : L2.St} {QS : L2.St → Hp → Prop} (q : QS σ H) : gNil [] σ H QS := ⟨rfl, q⟩
end
end WP
namespace WP
open PySem PySem.Spec PyProof.Rows L2
section
variable {K : PySem.W.Frag} {H : Hp} {p : Addr} {xs : List V} {v x : V} {i : Int} {Q : VK} {σ : L2.St} {D : Ends}
theorem forl {wi : TI} {g : TG} {tb : TS} (h : wi σ H fun J H1 => ∃ W : Nat → Nat → L2.St → Hp → Prop, (∃ m, W 0 m σ H1) ∧ ∀ i m σ H, W i m σ H →
  (J.stop i H ∧ D.nx σ H) ∨ (J.go i H ∧ ∃ N : L2.St → Hp → Prop, (∀ σ' H', N σ' H' → ∃ m', m' < m ∧ W (i + 1) m' σ' H') ∧ ∀ x H', J.yld i H x H' → g x σ H' fun σ2 H2 => tb { D with nx := N, ct := N, bk := D.nx } σ2 H2)) : tFor wi g tb D σ H := h
theorem rng1 {ta : TA} {R : It → Hp → Prop} (h : ta σ H fun vs H1 => ∃ j : Int, vs = [.int j] ∧ -(2 ^ 62) ≤ j ∧ j < 2 ^ 62 ∧ R (Itr 0 j.toNat) H1) : iRng1 ta σ H R := h
theorem rng2 {ta : TA} {R : It → Hp → Prop} (h : ta σ H fun vs H1 => ∃ i j : Int, vs = [.int i, .int j] ∧ (-(2 ^ 62) ≤ i ∧ i < 2 ^ 62 ∧ -(2 ^ 62) ≤ j ∧ j < 2 ^ 62) ∧ R (Itr i (j - i).toNat) H1) : iRng2 ta σ H R := h
theorem walkL {tl : TE} {R : It → Hp → Prop} (h : tl σ H fun x H1 => ∃ a, x = .ref a ∧ (∃ xs, SqL K H1 a xs) ∧ R (Itl K a) H1) : iList K tl σ H R := h
theorem walkT {tl : TE} {R : It → Hp → Prop} (h : tl σ H fun x H1 => ∃ a, x = .ref a ∧ (∃ xs, SqT K H1 a xs) ∧ R (Itt K a) H1) : iTup K tl σ H R := h
theorem isT {t n : String} {b : Bool} (ty : TyX K H x (.type t)) (q : Q (.bl b) H) (hb : kitB t n = some b := by decide +kernel) : rIsi K [x, .ty n] H Q :=
  ⟨x, .ty n, _, _, b, rfl, ClsV.ty n, ty, kit_ty hb, q⟩
theorem isY {t n : String} (ty : TyX K H x (.type t)) (q : Q (.bl true) H) (hb : kitB t n = some true := by decide +kernel) : rIsi K [x, .ty n] H Q := isT ty q hb
theorem isN {t n : String} (ty : TyX K H x (.type t)) (q : Q (.bl false) H) (hb : kitB t n = some false := by decide +kernel) : rIsi K [x, .ty n] H Q := isT ty q hb
def rLen (K : PySem.W.Frag) : List V → Hp → VK → Prop := fun xs H Q => ∃ x n, xs = [x] ∧ LenV K x H n ∧ Q (.int (n : Nat)) H
theorem c_len {X : Cx} : CallR X (.builtin "len") (rLen X.K) := call_len
theorem lenL (h : SqL K H p xs) (q : Q (.int (xs.length : Int)) H) : rLen K [V.ref p] H Q := ⟨_, _, rfl, .inl ⟨xs, h, rfl⟩, q⟩
theorem lenT (h : SqT K H p xs) (q : Q (.int (xs.length : Int)) H) : rLen K [V.ref p] H Q := ⟨_, _, rfl, .inr ⟨xs, h, rfl⟩, q⟩
theorem lenS {z : Str} (h : z.length ≤ sizeLine) (q : Q (.int (z.length : Int)) H) : rLen K [V.str z] H Q := ⟨_, _, rfl, ⟨h, rfl⟩, q⟩
def rInt1 : List V → Hp → VK → Prop := fun xs H Q => (∃ i, xs = [.int i] ∧ Q (.int i) H) ∨ ∃ k, xs = [.bl k] ∧ Q (.int (if k then 1 else 0)) H
theorem c_int1 {X : Cx} : CallR X (.type "int") rInt1 := call_int1
theorem intI (q : Q (.int i) H) : rInt1 [V.int i] H Q := .inl ⟨i, rfl, q⟩
theorem intB {b : Bool} (q : Q (.int (if b then 1 else 0)) H) : rInt1 [V.bl b] H Q := .inr ⟨b, rfl, q⟩
def rAbs : List V → Hp → VK → Prop := fun xs H Q => ∃ i, xs = [.int i] ∧ Q (.int (if i < 0 then -i else i)) H
theorem c_abs {X : Cx} : CallR X (.builtin "abs") rAbs := call_abs
theorem absI (q : Q (.int (i.natAbs : Int)) H) : rAbs [V.int i] H Q := ⟨i, rfl, by
  have e : (if i < 0 then -i else i) = (i.natAbs : Int) := by split <;> omega
  rw [e]; exact q⟩
def rMax2 : List V → Hp → VK → Prop := fun xs H Q => ∃ i j, xs = [.int i, .int j] ∧ Q (.int (if j > i then j else i)) H
def rMin2 : List V → Hp → VK → Prop := fun xs H Q => ∃ i j, xs = [.int i, .int j] ∧ Q (.int (if j < i then j else i)) H
theorem c_max2 {X : Cx} (hc : X.calm = true) : CallR X (.builtin "max") rMax2 := call_max2 hc
theorem c_min2 {X : Cx} (hc : X.calm = true) : CallR X (.builtin "min") rMin2 := call_min2 hc
theorem maxI {j : Int} (q : Q (.int (max i j)) H) : rMax2 [V.int i, V.int j] H Q := ⟨i, j, rfl, by
  have e : (if j > i then j else i) = max i j := by split <;> omega
  rw [e]; exact q⟩
theorem minI {j : Int} (q : Q (.int (min i j)) H) : rMin2 [V.int i, V.int j] H Q := ⟨i, j, rfl, by
  have e : (if j < i then j else i) = min i j := by split <;> omega
  rw [e]; exact q⟩
def rStrI : List V → Hp → VK → Prop := fun xs H Q => ∃ i : Int, xs = [.int i] ∧ i.natAbs.log2 < 1920 ∧ Q (.str (toString i)) H
theorem c_str {X : Cx} : CallR X (.type "str") rStrI := call_str_int
theorem strI (h : i.natAbs.log2 < 1920) (q : Q (.str (toString i)) H) : rStrI [V.int i] H Q := ⟨i, rfl, h, q⟩
def rListOf (K : PySem.W.Frag) : List V → Hp → VK → Prop := fun xs H Q => ∃ p ys, xs = [.ref p] ∧ (SqL K H p ys ∨ SqT K H p ys) ∧ ∀ l, H l = none → Q (.ref l) (upd H l (.lst ys))
theorem c_listOf {X : Cx} : CallR X (.type "list") (rListOf X.K) := call_list_of
theorem listL (h : SqL K H p xs) (q : ∀ l, H l = none → Q (.ref l) (upd H l (.lst xs))) : rListOf K [V.ref p] H Q := ⟨p, xs, rfl, .inl h, q⟩
theorem listT (h : SqT K H p xs) (q : ∀ l, H l = none → Q (.ref l) (upd H l (.lst xs))) : rListOf K [V.ref p] H Q := ⟨p, xs, rfl, .inr h, q⟩
def rTupOf (K : PySem.W.Frag) : List V → Hp → VK → Prop := fun xs H Q => ∃ p ys, xs = [.ref p] ∧ ((SqL K H p ys ∧ ∀ l, H l = none → Q (.ref l) (upd H l (.tup ys))) ∨ (SqT K H p ys ∧ Q (.ref p) H))
theorem c_tupOf {X : Cx} : CallR X (.type "tuple") (rTupOf X.K) := call_tuple_of
theorem tupL (h : SqL K H p xs) (q : ∀ l, H l = none → Q (.ref l) (upd H l (.tup xs))) : rTupOf K [V.ref p] H Q := ⟨p, xs, rfl, .inl ⟨h, q⟩⟩
def rOrd : List V → Hp → VK → Prop := fun xs H Q => ∃ x : Str, xs = [.str x] ∧ x.length = 1 ∧ Q (.int (x.cps.getD 0 0 : Nat)) H
theorem c_ord {X : Cx} : CallR X (.builtin "ord") rOrd := call_ord
theorem ordS {z : Str} (h : z.length = 1) (q : Q (.int (z.cps.getD 0 0 : Nat)) H) : rOrd [V.str z] H Q := ⟨z, rfl, h, q⟩
def rDivmod : List V → Hp → VK → Prop := fun xs H Q => ∃ i j, xs = [.int i, .int j] ∧ CDiv i j ∧ ∀ p, H p = none → Q (.ref p) (upd H p (.tup [.int (i / j), .int (i % j)]))
theorem c_divmod {X : Cx} : CallR X (.builtin "divmod") rDivmod := call_divmod
theorem sql {H' : Hp} {a : Addr} (e : Same H H') (h : SqL K H a xs) : SqL K H' a xs := e.seq h
theorem at_ints {ns : List Int} (h0 : 0 ≤ i) (h1 : i < (ns.length : Int)) : atI (ns.map V.int) i = some (.int (ns.getD i.toNat 0)) := by
  have e : i = ((i.toNat : Nat) : Int) := (Int.toNat_of_nonneg h0).symm
  rw [e]
  refine atI_nat ?_
  have hl : i.toNat < ns.length := by omega
  rw [List.getElem?_map, List.getElem?_eq_getElem hl, Int.toNat_natCast, List.getD_eq_getElem?_getD, List.getElem?_eq_getElem hl]
  rfl
end
end WP
namespace WP
open PySem PySem.Spec PyProof.Rows L2
section
variable {X : Cx}
theorem cut {t u : TS} {D : Ends} {σ : L2.St} {H : Hp} (Mid : L2.St → Hp → Prop) (h : t { D with nx := Mid } σ H) (k : ∀ σ' H', Mid σ' H' → u D σ' H') : Evl.tCut t u D σ H := ⟨Mid, h, k⟩
end
/-! ### == of data -/
section
variable {K : PySem.W.Frag} {H : Hp} {x y : V} {d e : PyData} {Q : VK}
theorem eqD (a : Dp K H x d) (b : Dp K H y e) (h : Q (.bl (PyData.eqv d e)) H) (s1 : SeqAt.shaped d = true := by first | rfl | decide +kernel) (s2 : SeqAt.shaped e = true := by first | rfl | decide +kernel) : rEqD K x y H Q := ⟨d, e, a, b, s1, s2, h⟩
theorem neD (a : Dp K H x d) (b : Dp K H y e) (h : Q (.bl (!PyData.eqv d e)) H) (s1 : SeqAt.shaped d = true := by first | rfl | decide +kernel) (s2 : SeqAt.shaped e = true := by first | rfl | decide +kernel) : rNeD K x y H Q := ⟨d, e, a, b, s1, s2, h⟩
theorem dpv {p : Addr} {u : Int} {s : Nat} (h : SqT K H p (dv u s)) : Dp K H (.ref p) (.tuple [.int u, .int (s : Int)]) := .tup h (.cons (.int _) (.cons (.int _) .nil))
end
end WP
namespace WP
open PySem PySem.Spec PyProof.Rows L2
abbrev MG := Str → Option Value
/-- the address that a module's name holds -/
def ca (mg : MG) (nm : Str) : Addr := match mg nm with
  | some (.ref a) => a
  | _ => 0
theorem ca_of {mg : MG} {nm : Str} {a : Addr} (h : mg nm = some (.ref a)) : ca mg nm = a := by unfold ca; rw [h]
/-! ### own exceptions without an __init__ of their own -/
structure ExcAt (K : PySem.W.Frag) (C : Addr) : Prop where
  x : PySem.W.excIn K C [.type "ValueError", .type "Exception", .type "BaseException", .type "object"] "ValueError.__new__" = true
  k : PySem.W.keepIn K (.ref C) = true
  t : PySem.W.typeIn K (.ref C) = some (.type "type")
  c : ExcC K C
structure ExcOk (K : PySem.W.Frag) (mg : MG) (nm : Str) : Prop where
  m : mg nm = some (.ref (ca mg nm))
  a : ExcAt K (ca mg nm)
theorem ExcOk.mk' {K : PySem.W.Frag} {mg : MG} {nm : Str} {C : Addr} (h : mg nm = some (.ref C)) (x : ExcAt K C) : ExcOk K mg nm := by
  have e := ca_of h
  exact ⟨by rw [e]; exact h, by rw [e]; exact x⟩
theorem ExcAt.raises {X : Cx} {C : Addr} (x : ExcAt X.K C) : Raises X (.ref C) := raises_own x.c.hs x.t
theorem ExcAt.catches {K : PySem.W.Frag} {C : Addr} (x : ExcAt K C) {cls : Value} {b : Bool} (h : PySem.W.subIn K cls (.ref C) = some b) : PySem.W.exmOne K cls (.ref C) = some b := PySem.W.exm_ref x.c.hs x.c.hd x.t h
section
variable {X : Cx} {x m : Str} {j : Nat} {p p2 pos pos2 : Pos} {W : WX}
theorem ps_raiseC (hc : X.calm = true) (tk : Takes X W) (e : ExcOk X.K X.mg x) (hg : Gl X x) (hdb : (x == ("__debug__" : Str)) = false := by decide) :
    PS X (.Raise (some (.Call (.Name x p) [.Constant (.str m) j p2] [] pos)) none pos2) (fun _ σ H => W (.ref (ca X.mg x)) none σ H) :=
  ps_raise hc tk (pmk_own PySem.F.excBase_ValueError e.a.x e.m e.a.k e.a.raises hg hdb)
end
/-- isinstance of the caught error -/
def rIsX (K : PySem.W.Frag) (a : Addr) (cls : Value) (d : Option Addr) : List V → Hp → VK → Prop := fun xs H Q => ∃ D, cls = .ref D ∧ d = none ∧ ExcC K D ∧ rIsE K D a xs H Q
theorem call_isX {X : Cx} {a : Addr} {oe : Obj} {cls : Value} {d : Option Addr} {pn : List (Addr × Obj)} (hz : Zc cls d oe) (hf : ∃ vs, oe.data = .fields vs) : CallR (X.suite a ((a, oe) :: pn)) (.builtin "isinstance") (rIsX X.K a cls d) := by
  intro pins s σ H xs us Q I r h
  obtain ⟨D, rfl, rfl, c, h⟩ := h
  exact call_isE c hz hf pins s σ H xs us Q I r h
theorem isX {K : PySem.W.Frag} {a D C : Addr} {b : Bool} {H : Hp} {Q : VK} (c : ExcC K D) (h : PySem.W.kitOne K (.ref D) (.ref C) = some b) (q : Q (.bl b) H) : rIsX K a (.ref D) none [.ref a, .ref C] H Q :=
  ⟨D, rfl, rfl, c, .ref C, .ref C, b, rfl, fun _ r => r, h, q⟩
section
variable {X : Cx} {CX' : CXT} {k j : Nat} {ps : List Str} {sp : Sp} {E : L2.St → XK} {E0 : XK} {x : Str} {p pos : Pos} {e : Expr} {es : List Expr} {t : TA}
theorem pe_callSC (C : Callee X.prog X.w X.K X.mg X.base (L2.CX X.prog X.w) k x ps sp) (hr : Room j X.A) (hg : Gl X x) (hx : ∀ σ, PassesAt (L2.CX X.prog X.w) X σ (E σ)) (ha : PA X (e :: es) t) (hl : k ≤ j := by decide)
    (hdb : (x == ("__debug__" : Str)) = false := by decide) (he : starEach (e :: es) X.env = (false, eval e X.env) :: starEach es X.env := by rfl) (hpl : (backTo pos (starEach es X.env)).any (·.1) = false := by rfl) :
    PE X (.Call (.Name x p) (e :: es) [] pos) (tCallS sp E t) := by
  obtain ⟨f, fd, F, hm, hk, hb⟩ := C.ex
  exact pe_callS F (hr.mono hl) hg hm hk hb hx ha hdb he hpl
/-- what a callee lets out leaves this def too -/
theorem passX {E : XK} {E₁ : Value → Shared → Prop} (hs : X.stack = X.env :: X.outer) (hf : X.env.frame = some X.env.locals) (hex : X.ex = [])
    (hx : X.xe = fun e s' => wpAny (model X.prog X.w) X.A (leaving X.env e) (fun _ s'' => L2.CX X.prog X.w X.outer X.H_0 X.s_0 E e s'') E₁ s') : Passes (L2.CX X.prog X.w) X E :=
  fun pins σ H s e s' I c => passes_call (takes_of hs hf hex hx) (fun _ _ _ _ z => z) pins σ H s e s' I c
end
theorem callS {sp : Sp} {E : L2.St → XK} {a : TA} {σ : L2.St} {H : Hp} {Q : VK} (h : a σ H fun vs H1 => sp vs H1 Q (E σ)) : tCallS sp E a σ H Q := h
end WP
namespace WP
open PySem PySem.Spec PyProof.Rows L2
def rDivmodW : List V → Hp → VK → Prop := fun xs H Q => ∃ i j, xs = [.int i, .int j] ∧ CDivP i j ∧ ∀ p, H p = none → Q (.ref p) (upd H p (.tup [.int (i / j), .int (i % j)]))
theorem c_divmodW {X : Cx} : CallR X (.builtin "divmod") rDivmodW := call_divmodW
theorem Bt.p {i j : Int} {a : Nat} (h : Bt i a) (hj : 0 < j) (l : a ≤ 4000 := by omega) : CDivP i j := divp_ok hj (by have := intBits_le h; omega)
theorem divW {i j : Int} {H : Hp} {Q : VK} (c : CDivP i j) (q : ∀ p, H p = none → Q (.ref p) (upd H p (.tup [.int (i / j), .int (i % j)]))) : rDivmodW [.int i, .int j] H Q := ⟨i, j, rfl, c, q⟩
end WP
namespace WP
open PySem PySem.Spec PyProof.Rows L2
/-- a callee that raises, called where it does not -/
theorem pass0X {X : Cx} : Passes (L2.CX X.prog X.w) X (fun _ _ _ => False) := fun pins σ H s e s' I c => passes_call (W := fun _ _ _ _ => False) takes0 (fun _ _ _ _ z => z) pins σ H s e s' I c
end WP
namespace WP
open PySem PySem.Spec PyProof.Rows L2
/-- no star -/
def noStar : Expr → Bool
  | .Starred _ _ => false
  | _ => true
theorem starEach_no {e : Expr} {es : List Expr} {env : Env} (h : noStar e = true) : starEach (e :: es) env = (false, eval e env) :: starEach es env := by
  cases e with
  | Starred a b => cases h
  | _ => rfl
theorem pa_consN {X : Cx} {e : Expr} {es : List Expr} {te : TE} {t : TA} (ha : PE X e te) (hr : PA X es t) (hs : noStar e = true := by rfl) : PA X (e :: es) (tCons te t) := pa_cons ha hr (starEach_no hs)
end WP

namespace WP
open PySem PySem.Spec PyProof.Rows L2
open SX (S S_len S_cat)
section
variable {X : Cx}
theorem pe_strL {x : Str} {j pos} (l : List Nat) (h : x = S l) : PE X (.Constant (.str x) j pos) (tC (.str (S l))) := by subst h; exact pe_str
/-- text * number -/
def rMulS : R2 := fun x y H Q => ∃ (a : Str) (i : Int), x = .str a ∧ y = .int i ∧ MulOk a i ∧ Q (.str (Txt.mul a i)) H
theorem op_mul_str : OpR X (binaryOp .Mult) rMulS := by
  intro pins s σ H x y v u Q I rx ry h
  obtain ⟨a, i, rfl, rfl, hz, q⟩ := h
  obtain ⟨t, rfl⟩ := rx
  obtain ⟨t', rfl⟩ := ry
  exact SB.mul hz fun t' k => ⟨.str _, H, I.tok _, ⟨_, rfl⟩, q⟩
def rAddS : R2 := fun x y H Q => ∃ (a b : Str), x = .str a ∧ y = .str b ∧ a.length + b.length ≤ sizeLine ∧ Q (.str (a ++ b)) H
theorem op_addS : OpR X (binaryOp .Add) rAddS := op_add_str
def rZfill : V → List V → Hp → VK → Prop := fun x xs H Q => ∃ (a : Str) (i : Int), x = .str a ∧ xs = [.int i] ∧ PadOk i = true ∧ Q (.str (Txt.zfill a i)) H
theorem m_zfill : MtR X "str.zfill" rZfill := mt_zfill
def rIntS : List V → Hp → VK → Prop := fun xs H Q => ∃ (a : Str) (n : Int), xs = [.str a] ∧ PySem.intText? a = some n ∧ a.length ≤ 640 ∧ Q (.int n) H
theorem c_intS : CallR X (.type "int") rIntS := call_int_str
end
section
variable {a b l : List Nat} {i : Int} {H : Hp} {Q : VK}
theorem catS (q : Q (.str (S (a ++ b))) H) (h : a.length + b.length ≤ sizeLine := by size_fits) : rAddS (.str (S a)) (.str (S b)) H Q := ⟨_, _, rfl, rfl, by rw [S_len, S_len]; exact h, by rw [S_cat]; exact q⟩
theorem reps1 (c : Nat) : ∀ (k : Nat) (acc : Array Nat), ((List.replicate k #[c]).foldl (· ++ ·) acc) = (acc.toList ++ List.replicate k c).toArray
  | 0, acc => by simp
  | k + 1, acc => by
    rw [List.replicate_succ, List.foldl_cons, reps1 c k]
    simp [List.replicate_succ]
theorem mul_S (c : Nat) (i : Int) : Txt.mul (S [c]) i = S (List.replicate i.toNat c) := by
  unfold Txt.mul
  split
  · rename_i h
    rw [show i.toNat = 0 by omega]; rfl
  · rename_i h
    split
    · rename_i h2
      have : i = 1 := by
        rw [Bool.or_eq_true] at h2
        rcases h2 with h2 | h2
        · exact eq_of_beq h2
        · exact absurd h2 (by rw [S_len]; exact Bool.false_ne_true)
      subst this
      rfl
    · show (⟨(List.replicate i.toNat #[c]).foldl (· ++ ·) #[]⟩ : Str) = _
      rw [reps1]; simp [S]
theorem mulOk1 (c : Nat) {i : Int} (h : i ≤ 100000) (h2 : -100000 ≤ i) : MulOk (S [c]) i := by
  refine ⟨by rw [decide_eq_false (by omega), decide_eq_false (by omega)]; rfl, fun h1 _ => ?_, fun h1 _ => ?_⟩
  · rw [S_len]
    show ¬ (((1 : Nat) : Int) > _)
    have : (1 : Int) ≤ (2 ^ 63 - 1) / i := by
      rw [Int.le_ediv_iff_mul_le (by omega)]; omega
    omega
  · rw [S_len]
    unfold Builtin.Str.tooLong
    exact decide_eq_false (by rw [sizeLine_eq]; show ¬ (1 * i.toNat > _); omega)
theorem mulS {c : Nat} (h : i ≤ 100000) (h2 : -100000 ≤ i) (q : Q (.str (S (List.replicate i.toNat c))) H) : rMulS (.str (S [c])) (.int i) H Q :=
  ⟨_, _, rfl, rfl, mulOk1 c h h2, by rw [mul_S]; exact q⟩
/-- zfill of a text without a sign -/
theorem zfill_S (h : ∀ c, l.head? = some c → c ≠ 43 ∧ c ≠ 45) (hi : 0 ≤ i) : Txt.zfill (S l) i = S (List.replicate (i.toNat - l.length) 48 ++ l) := by
  unfold Txt.zfill
  rw [S_len]
  split
  · rename_i h1
    rw [show i.toNat - l.length = 0 by omega]; rfl
  · unfold PySem.zfilled
    have e : (S l).cps[0]? = l.head? := by simp [S, List.head?_eq_getElem?]
    rw [e]
    have fin : Builtin.Str.padded (S l) (i.toNat - l.length) 0 48 = S (List.replicate (i.toNat - l.length) 48 ++ l) := by
      unfold Builtin.Str.padded
      simp [S]
    split
    · rename_i hc; exact absurd rfl (h _ hc).1
    · rename_i hc; exact absurd rfl (h _ hc).2
    · exact fin
theorem zfillS (h : ∀ c, l.head? = some c → c ≠ 43 ∧ c ≠ 45) (hi : 0 ≤ i) (h2 : i ≤ 100000) (q : Q (.str (S (List.replicate (i.toNat - l.length) 48 ++ l))) H) : rZfill (.str (S l)) [.int i] H Q :=
  ⟨_, _, rfl, rfl, by unfold PadOk fitsSsize; rw [decide_eq_false (by omega), decide_eq_false (by omega)]; unfold Builtin.Str.tooLong; rw [decide_eq_false (by rw [sizeLine_eq]; omega)]; rfl, by rw [zfill_S h hi]; exact q⟩
theorem lenS' (h : l.length ≤ sizeLine) (q : Q (.int (l.length : Int)) H) {K : PySem.W.Frag} : rLen K [V.str (S l)] H Q := ⟨_, _, rfl, ⟨by rw [S_len]; exact h, rfl⟩, by rw [S_len]; exact q⟩
theorem strN {n : Nat} (h : n.log2 < 1920) (q : Q (.str (S (TL.numL n))) H) : rStrI [V.int (n : Int)] H Q := ⟨_, rfl, by rw [Int.natAbs_natCast]; exact h, by
  have e : Str.ofString (toString ((n : Nat) : Int)) = S (TL.numL n) := SX.num_S n
  rw [e]; exact q⟩
theorem intSd (h : l.all (fun c => decide (48 ≤ c) && decide (c ≤ 57)) = true) (hne : l ≠ []) (hl : l.length ≤ 640) (q : Q (.int ((NumText.digitsVal l : Nat) : Int)) H) : rIntS [V.str (S l)] H Q :=
  ⟨_, _, rfl, SX.int_S h hne (by omega), by rw [S_len]; exact hl, q⟩
theorem slS {lo hi : Option Int} (z : Str) (h : z.length ≤ sizeLine) (q : Q (.str (Txt.slice z lo hi)) H) : rSlS (.str z) lo hi H Q := ⟨z, rfl, h, by rw [C8.cutS_slice]; exact q⟩
theorem slTo (hi : 0 ≤ i) (h : l.length ≤ sizeLine) (q : Q (.str (S (l.take i.toNat))) H) : rSlS (.str (S l)) none (some i) H Q := slS _ (by rw [S_len]; exact h) (by rw [SX.slice_to hi]; exact q)
theorem slFrom (hi : 0 ≤ i) (h : l.length ≤ sizeLine) (q : Q (.str (S (l.drop i.toNat))) H) : rSlS (.str (S l)) (some i) none H Q := slS _ (by rw [S_len]; exact h) (by rw [SX.slice_from hi]; exact q)
/-- an index from the end -/
theorem idx_neg_hi {l1 : Option Int} {n : Nat} {i : Int} (h : i < 0) (h2 : 0 ≤ i + n) : Builtin.Str.strSliceIndices l1 (some i) 1 n = Builtin.Str.strSliceIndices l1 (some (i + n)) 1 n := by
  have h1 : ¬ (i + n < 0) := by omega
  simp only [Builtin.Str.strSliceIndices, h, h1, if_false, if_true]
theorem idx_neg_lo {l1 : Option Int} {n : Nat} {i : Int} (h : i < 0) (h2 : 0 ≤ i + n) : Builtin.Str.strSliceIndices (some i) l1 1 n = Builtin.Str.strSliceIndices (some (i + n)) l1 1 n := by
  have h1 : ¬ (i + n < 0) := by omega
  simp only [Builtin.Str.strSliceIndices, h, h1, if_false, if_true]
theorem slice_toN (h : i < 0) (h2 : 0 ≤ i + (l.length : Int)) : Txt.slice (S l) none (some i) = S (l.take (i + (l.length : Int)).toNat) := by
  rw [← SX.slice_to h2]
  unfold Txt.slice
  rw [S_len, idx_neg_hi h h2]
theorem slice_fromN (h : i < 0) (h2 : 0 ≤ i + (l.length : Int)) : Txt.slice (S l) (some i) none = S (l.drop (i + (l.length : Int)).toNat) := by
  rw [← SX.slice_from h2]
  unfold Txt.slice
  rw [S_len, idx_neg_lo h h2]
theorem slToN (hi : i < 0) (h2 : 0 ≤ i + (l.length : Int)) (h : l.length ≤ sizeLine) (q : Q (.str (S (l.take (i + (l.length : Int)).toNat))) H) : rSlS (.str (S l)) none (some i) H Q := slS _ (by rw [S_len]; exact h) (by rw [slice_toN hi h2]; exact q)
theorem slFromN (hi : i < 0) (h2 : 0 ≤ i + (l.length : Int)) (h : l.length ≤ sizeLine) (q : Q (.str (S (l.drop (i + (l.length : Int)).toNat))) H) : rSlS (.str (S l)) (some i) none H Q := slS _ (by rw [S_len]; exact h) (by rw [slice_fromN hi h2]; exact q)
theorem eqTS {a b : List Nat} (h : Q (.bl (decide (a = b))) H) : rEq (.str (S a)) (.str (S b)) H Q := ⟨rfl, by
  have e : decide ((S a : Str) = S b) = decide (a = b) := by
    by_cases h : a = b
    · subst h; rw [decide_eq_true rfl, decide_eq_true rfl]
    · rw [decide_eq_false h, decide_eq_false fun z => h (SX.S_inj z)]
  rw [dec_str, e]; exact h⟩
theorem neTS {a b : List Nat} (h : Q (.bl (!decide (a = b))) H) : rNe (.str (S a)) (.str (S b)) H Q := ⟨rfl, by
  have e : decide ((S a : Str) = S b) = decide (a = b) := by
    by_cases h : a = b
    · subst h; rw [decide_eq_true rfl, decide_eq_true rfl]
    · rw [decide_eq_false h, decide_eq_false fun z => h (SX.S_inj z)]
  rw [dec_str, e]; exact h⟩
/-- range with a step -/
theorem rng3 {ta : TA} {σ : L2.St} {R : It → Hp → Prop} (h : ta σ H fun vs H1 => ∃ (i j c : Int) (n : Nat), vs = [.int i, .int j, .int c] ∧ RgC i j c n ∧ R (Itc i c n) H1) : iRng3 ta σ H R := h
end
/-! ### the figures of a number -/
/-- k figures of n -/
def padL : Nat → Nat → List Nat
  | 0, _ => []
  | k + 1, n => padL k (n / 10) ++ [48 + n % 10]
theorem padL_len : ∀ k n, (padL k n).length = k
  | 0, _ => rfl
  | k + 1, n => by unfold padL; rw [List.length_append, padL_len]; rfl
theorem numL_app : ∀ (k q r : Nat), 0 < q → r < 10 ^ k → TL.numL (q * 10 ^ k + r) = TL.numL q ++ padL k r
  | 0, q, r, _, hr => by
    have : r = 0 := by simp at hr; exact hr
    subst this
    simp [padL]
  | k + 1, q, r, hq, hr => by
    have e10 : 10 ^ (k + 1) = 10 ^ k * 10 := Nat.pow_succ ..
    have hp : 0 < 10 ^ k := Nat.pow_pos (by decide)
    have b : 10 ≤ q * 10 ^ (k + 1) + r := by
      have : 1 * 10 ^ (k + 1) ≤ q * 10 ^ (k + 1) := Nat.mul_le_mul_right _ hq
      omega
    have d : (q * 10 ^ (k + 1) + r) / 10 = q * 10 ^ k + r / 10 := by
      rw [e10, ← Nat.mul_assoc]; omega
    have m : (q * 10 ^ (k + 1) + r) % 10 = r % 10 := by
      rw [e10, ← Nat.mul_assoc]; omega
    rw [TL.numL_step b, d, m, numL_app k q (r / 10) hq (by omega)]
    rw [show padL (k + 1) r = padL k (r / 10) ++ [48 + r % 10] from rfl, List.append_assoc]
theorem padL_zero : ∀ k, padL k 0 = List.replicate k 48
  | 0 => rfl
  | k + 1 => by unfold padL; rw [show 0 / 10 = 0 from rfl, padL_zero k, List.replicate_succ']
theorem padL_num : ∀ (k n : Nat), 0 < k → n < 10 ^ k → padL k n = List.replicate (k - (TL.numL n).length) 48 ++ TL.numL n
  | k + 1, n, _, h => by
    by_cases c : n < 10
    · rw [TL.numL_lt c]
      unfold padL
      rw [show n / 10 = 0 by omega, padL_zero, show n % 10 = n by omega]
      rfl
    · have hk : 0 < k := by
        rcases k with _ | k
        · simp at h; omega
        · omega
      have e10 : 10 ^ (k + 1) = 10 ^ k * 10 := Nat.pow_succ ..
      rw [TL.numL_step (by omega)]
      unfold padL
      rw [padL_num k (n / 10) hk (by omega), List.length_append, List.append_assoc]
      congr 2
      simp
theorem numL_head {n c : Nat} (h : (TL.numL n).head? = some c) : c ≠ 43 ∧ c ≠ 45 := by
  have m : c ∈ TL.numL n := List.mem_of_head? h
  have := TL.numL_digits n c m
  omega
theorem digits_rep (n : Nat) : NumText.digitsVal (49 :: List.replicate n 48) = 10 ^ n := by
  unfold NumText.digitsVal
  rw [List.foldl_cons]
  have : ∀ (n a : Nat), (List.replicate n 48).foldl (fun acc c => acc * 10 + (c - 48)) a = a * 10 ^ n := by
    intro n
    induction n with
    | zero => intro a; simp
    | succ n ih => intro a; rw [List.replicate_succ, List.foldl_cons, ih, Nat.pow_succ]; rw [Nat.sub_self, Nat.add_zero, Nat.mul_assoc, Nat.mul_comm 10]
  rw [this]; simp
end WP
namespace WP
open PySem PySem.Spec PyProof.Rows L2
section
variable {K : PySem.W.Frag} {σ : L2.St} {H : Hp} {Q : VK} {x v : V} {p : Addr} {xs : List V}
theorem bm {T : String} {r : V → List V → Hp → VK → Prop} {to : TE} {t : TA} (h : to σ H fun x H1 => tyV K T x H1 ∧ t σ H1 fun xs H2 => r x xs H2 Q) : tBM K T r to t σ H Q := h
theorem tyS {z : Str} {A : Prop} (q : A) : tyV K "str" (.str z) H ∧ A := ⟨rfl, q⟩
theorem gsub {to ti : TE} {t : TSet} {QS : L2.St → Hp → Prop} (h : to σ H fun o H1 => ti σ H1 fun i H2 => t o i v H2 fun H3 => QS σ H3) : gSub to ti t v σ H QS := h
theorem setL {k : Int} {j : Nat} {R : Hp → Prop} (hp : H p = some (.lst xs)) (hj : ixN xs.length k = some j) (q : R (upd H p (.lst (xs.set j v)))) : rSetL (.ref p) (.int k) v H R := ⟨p, xs, k, j, rfl, rfl, hp, hj, q⟩
theorem appL (hp : H p = some (.lst xs)) (hz : xs.length < sizeLine) (q : Q .non (upd H p (.lst (xs ++ [v])))) : rAppend (.ref p) [v] H Q := ⟨p, xs, v, rfl, rfl, hp, hz, q⟩
theorem tyL {A : Prop} (hp : SqL K H p xs) (q : A) : tyV K "list" (.ref p) H ∧ A := ⟨.inl ⟨rfl, xs, hp⟩, q⟩
theorem tyT (h : SqT K H p xs) : TyX K H (.ref p) (.type "tuple") := by
  rcases h with (h | ⟨o, h⟩) | h
  · exact .base (.tup h)
  · exact .fTuple h
  · obtain ⟨o, its, n, h1, h2, h3⟩ := h
    exact .kTuple h1 h2
/-- all objects but the one at d are kept -/
def Sx (d : Addr) (H H' : Hp) : Prop := ∀ a o, a ≠ d → H a = some o → H' a = some o
theorem Sx.refl {d : Addr} {H : Hp} : Sx d H H := fun _ _ _ e => e
theorem Sx.trans {d : Addr} {H H' H2 : Hp} (h : Sx d H H') (k : Sx d H' H2) : Sx d H H2 := fun a o n e => k a o n (h a o n e)
theorem Sx.of {d : Addr} {H H' : Hp} (h : Same H H') : Sx d H H' := fun a o _ e => h a o e
theorem Sx.upd {d : Addr} {H : Hp} {o : HO} : Sx d H (upd H d o) := fun a u n e => by rw [upd_ne n]; exact e
theorem sqtX {d : Addr} {H H' : Hp} {ys : List V} (e : Sx d H H') (hd : H d = some (.lst ys)) (h : SqT K H p xs) : SqT K H' p xs := by
  rcases h with (h | ⟨o, h⟩) | h
  · exact .inl (.inl (e _ _ (fun z => by rw [z, hd] at h; cases h) h))
  · exact .inl (.inr ⟨o, e _ _ (fun z => by rw [z, hd] at h; cases h) h⟩)
  · exact .inr h
end
end WP
namespace WP
theorem log2_lt {n k : Nat} (hk : 0 < k) (h : n < 2 ^ k) : n.log2 < k := by
  by_cases z : n = 0
  · subst z; exact hk
  · exact (Nat.log2_lt z).mpr h
end WP
namespace WP
open PySem PySem.Spec PyProof.Rows L2
theorem ifSS {c : Prop} [Decidable c] {a b : List Nat} {σ : L2.St} {H : Hp} {Q : VK} (q : Q (.str (SX.S (if c then a else b))) H) : if decide c = true then tC (.str (SX.S a)) σ H Q else tC (.str (SX.S b)) σ H Q := by
  by_cases h : c
  · rw [if_pos (decide_eq_true h)]; rw [if_pos h] at q; exact q
  · rw [if_neg (by rw [decide_eq_false h]; exact Bool.false_ne_true)]; rw [if_neg h] at q; exact q
end WP
namespace WP
open PySem PySem.Spec PyProof.Rows L2
section
variable {K : PySem.W.Frag} {H H' : Hp} {a d : Addr} {xs : List V}
theorem sqlX (e : Sx d H H') (n : a ≠ d) (h : SqL K H a xs) : SqL K H' a xs := by
  rcases h with (h | ⟨o, h⟩) | h
  · exact .inl (.inl (e _ _ n h))
  · exact .inl (.inr ⟨o, e _ _ n h⟩)
  · exact .inr h
end
end WP
namespace WP
open PySem PySem.Spec PyProof.Rows L2
/-- a text that may stand in data -/
def SOk (z : Str) : Prop := (PyData.str z).canLay0 = true
theorem SOk.sh {z : Str} (h : SOk z) : SeqAt.shaped (.str z) = true := Bool.and_eq_true_iff.mpr ⟨h, rfl⟩
theorem sok_S {l : List Nat} (h : ∀ c ∈ l, c < 1114112) : SOk (SX.S l) := by
  show (SX.S l).cps.all (· < 0x110000) = true
  rw [← Array.all_toList]
  exact List.all_eq_true.mpr fun c hc => decide_eq_true (h c hc)
end WP
namespace WP
open PySem PySem.Spec PyProof.Rows L2
theorem rg9 {j : Int} (h1 : 1 ≤ j) (h2 : j ≤ 1000) : RgC 0 j 9 ((j - 1) / 9 + 1).toNat := by
  have e : Builtin.Range.rangeSize 0 j 9 = (j - 1) / 9 + 1 := by
    unfold Builtin.Range.rangeSize
    rw [if_pos (by decide), if_pos (by omega), show j - 0 - 1 = j - 1 by omega]
  refine ⟨by decide, by decide, ?_, by rw [e]; omega⟩
  unfold Builtin.Range.small
  rw [e]
  simp only [Builtin.Range.rangeFitsLong, Bool.and_eq_true, Bool.or_eq_true, decide_eq_true_eq, beq_iff_eq]
  simp
  omega
end WP

namespace WJ
open PySem PySem.W PySem.Calls PyProof.Rows PySem.SC
section
variable {prog : Program} {w : World} {A : Around} {E : Value → Shared → Prop} {s : Shared}
/-- x.join(reversed(a list)): the walk backwards is collected, then glued -/
theorem join_rev {x : Str} {t : Tok} {ys : List Str} {it l : Addr} {its : Array Value} {Q : Value → Shared → Prop} (hh : A.handled = none)
    (hi : s.heap.IsRevIter it l ((its.size : Int) - 1)) (hl : s.heap.IsList l its) (ne : l ≠ it) (hn : its.size ≤ sizeLine)
    (hy : ∀ acc : Array Value, ItemsOf (fun i v => its[its.size - 1 - i]? = some v) acc its.size → StrsAre acc.toList ys) (fit : (ys.map (·.length)).sum + ys.length * x.length ≤ 16777216)
    (done : ∀ (h' : Heap) (t' : Tok) (k : Nat), (∀ b o, b ≠ it → s.heap.get? b = some o → h'.get? b = some o) → Q (.str (Txt.join x ys) t') { s with heap := h', toks := k }) :
    wpAny (model prog w) A (call (.builtin "str.join") [.str x t, .ref it]) Q E s := by
  have T : s.TypeIs (.ref it) "list_reverseiterator" := Heap.IsRevIter.typeIs hi
  refine wpAny_call (codeAny_call_builtin F.slot_str_join.plain F.entry_str_join ?_)
  refine F.slot_str_join.check _ _ _ _ _ _ _ _ (typeIs_str _ _ _) (F.args_str_join_2 _ _) ?_
  rw [join_tree_other]
  refine wpAny_bind (wpAny_typeOf T ?_)
  show wpAny _ A.in1 ((pyIter (.ref it)).tryCatch _ >>= fun j => collect j >>= fun zs => joinTail x zs) _ _ s
  refine wpAny_bind (wpAny_tryCatch (wpAny_pyIter_revIter hi ?_))
  refine wpAny_bind (RT.collect_rev hh hi hl ne hn fun h' k acc kept got => ?_)
  obtain ⟨ts, et, ey⟩ := strsAre_values (hy acc got)
  subst ey
  rw [et]
  have ok := joinOk_of fit
  unfold JoinOk at ok
  rw [Bool.not_eq_true'] at ok
  have G : Gives (joinTail x (strValues ts)) (joinMade x ts) := by
    rcases ts with _ | ⟨_, _ | ⟨_, _⟩⟩ <;> exact gives_joinTail x _ ok
  refine G prog w A (wants Q E) { s with heap := h', toks := k } (post_join ts ⟨joinFit_length ok, fun t' k' => ?_⟩)
  exact done h' t' k' kept
end
end WJ
namespace WP
open PySem PySem.Spec PyProof.Rows L2
/-- sep.join(reversed(xs)), xs a list of texts -/
def tJoinRev (K : PySem.W.Frag) (to te : TE) : TE := fun σ H Q => to σ H fun x H1 => (∃ a, x = .str a) ∧ te σ H1 fun v H2 => ∃ (a : Str) (q : Addr) (ys : List Str),
  x = .str a ∧ v = .ref q ∧ SqL K H2 q (ys.map V.str) ∧ ((ys.map (·.length)).sum + ys.length * a.length ≤ 16777216) ∧ Q (.str (Txt.join a ys.reverse)) H2
theorem pe_joinRev {X : Cx} {o e : Expr} {to te : TE} {apos pos p2 pos2 : Pos} (hc : X.calm = true) (ho : PE X o to) (hg : Gl X "reversed") (hm : X.mg "reversed" = none) (he : PE X e te)
    (hs1 : starEach [.Call (.Name "reversed" p2) [e] [] pos2] X.env = [(false, eval (.Call (.Name "reversed" p2) [e] [] pos2) X.env)] := by rfl)
    (hs : starEach [e] X.env = (false, eval e X.env) :: starEach [] X.env := by rfl)
    (hbase : attributeBase o "join" X.env (eval o X.env) = eval o X.env := by rfl) (hline : (apos.endLine == pos.line) = true := by rfl) :
    PE X (.Call (.Attribute o "join" apos) [.Call (.Name "reversed" p2) [e] [] pos2] [] pos) (tJoinRev X.K to te) := by
  refine ⟨fun pins s σ H Q I h => ?_⟩
  refine PySem.Call_method1 hbase hs1 hline (thn (ho.run pins s σ H _ I h) fun v s1 ⟨x, H1, I1, r1, q1⟩ => ?_)
  obtain ⟨⟨a, rfl⟩, q1⟩ := q1
  obtain ⟨t, rfl⟩ := _root_.id r1
  refine ⟨"str", _, F.plainAttrs_str, F.slot_str_join, F.type_str_join, typeIs_str _ _ _, (fun _ e => nomatch e), Calls.callWith_builtin rfl (Calls.evalArgs_plain (Calls.spliced_cons ?_))⟩
  refine Call_ (ld_blt I1 hg hm PyProof.Rows.boot_reversed (PyProof.Rows.callWith_type1 (args_cons (thn (he.run pins s1 σ H1 _ I1 q1) fun u s2 ⟨v2, H2, I2, r2, q2⟩ => args_nil ?_) hs) hs rfl))
  obtain ⟨a', q, ys, ea, ev, hq, hz, q2⟩ := q2
  cases ea
  subst ev
  obtain rfl : u = Value.ref q := r2
  obtain ⟨its, rv, pl, hsz⟩ := I2.list hq
  refine call_reversed_list pl.isList (Calls.spliced_nil ?_)
  have k0 : ∀ b o, s2.heap.get? b = some o → (s2.heap.push (revObj q ((its.toArray.size : Int) - 1))).get? b = some o := fun b o e => Heap.get?_push_of_some _ e
  have I3 : Inv X pins σ H2 { s2 with heap := s2.heap.push (revObj q ((its.toArray.size : Int) - 1)) } := I2.kept (t' := s2.toks) k0
  obtain ⟨f0, f1, f2, f3, f4, f5⟩ := I2.fpOk (H' := H2) (b := s2.heap.objs.size) (Nat.le_refl _) (I2.hok.fresh (Nat.le_refl _))
  have hl := pl.isList
  obtain ⟨ol, hol, _⟩ := _root_.id hl
  refine WJ.join_rev (s := { s2 with heap := s2.heap.push (revObj q ((its.toArray.size : Int) - 1)) }) (ys := ys.reverse) (I2.ok.hd hc) ⟨_, Heap.get?_push_size _ rfl, rfl, rfl⟩ (hl.push _) (Nat.ne_of_lt (Heap.lt_size hol))
    (by rw [List.size_toArray, ← rv.length]; exact hsz) (fun acc hacc => ?_) (by rw [List.map_reverse, List.sum_reverse, List.length_reverse]; exact hz) fun h' t' k hk => ?_
  · have z := RT.vals_rev rv hacc
    rw [← List.map_reverse] at z
    exact strs_of_vals z
  · exact ⟨.str _, H2, I3.turned (t' := k) (fun b o hb e => hk b o hb e) f0 f1 f3 f4 f5, ⟨t', rfl⟩, q2⟩
end WP
namespace WP
open PySem PySem.Spec PyProof.Rows L2
theorem jr {K : PySem.W.Frag} {to te : TE} {σ : L2.St} {H : Hp} {Q : VK} (h : to σ H fun x H1 => (∃ a, x = .str a) ∧ te σ H1 fun v H2 => ∃ (a : Str) (q : Addr) (ys : List Str),
  x = .str a ∧ v = .ref q ∧ SqL K H2 q (ys.map V.str) ∧ ((ys.map (·.length)).sum + ys.length * a.length ≤ 16777216) ∧ Q (.str (Txt.join a ys.reverse)) H2) : tJoinRev K to te σ H Q := h
theorem joinL_nil : ∀ l : List (List Nat), TL.joinL [] l = l.flatten
  | [] => rfl
  | [p] => by simp [TL.joinL]
  | p :: q :: r => by rw [TL.joinL, joinL_nil (q :: r)]; simp
theorem join_nilS (ys : List (List Nat)) : Txt.join (SX.S []) (ys.map SX.S) = SX.S ys.flatten := by rw [SX.join_S, joinL_nil]
end WP

namespace WP
open PySem PySem.Spec PyProof.Rows L2
open SX (S S_len S_cat)
/-! ### tuples and dicts of the module -/
structure KTp (K : PySem.W.Frag) (mg : MG) (nm : Str) (xs : List V) : Prop where
  m : mg nm = some (.ref (ca mg nm))
  s : ∀ H, SqT K H (ca mg nm) xs
theorem KTp.mk' {K : PySem.W.Frag} {mg : MG} {nm : Str} {C : Addr} {xs : List V} (h : mg nm = some (.ref C)) (x : ∀ H, SqT K H C xs) : KTp K mg nm xs := by
  have e := ca_of h
  exact ⟨by rw [e]; exact h, by rw [e]; exact x⟩
structure KDc (K : PySem.W.Frag) (w : World) (mg : MG) (nm : Str) (l : List (Str × V)) : Prop where
  m : mg nm = some (.ref (ca mg nm))
  s : ∀ p ∈ l, KDct K w (ca mg nm) p.1 p.2
theorem KDc.mk' {K : PySem.W.Frag} {w : World} {mg : MG} {nm : Str} {C : Addr} {l : List (Str × V)} (h : mg nm = some (.ref C)) (x : ∀ p ∈ l, KDct K w C p.1 p.2) : KDc K w mg nm l := by
  have e := ca_of h
  exact ⟨by rw [e]; exact h, by rw [e]; exact x⟩
theorem kdc_cons {K : PySem.W.Frag} {w : World} {C : Addr} {k : Str} {v : V} {l : List (Str × V)} (h : KDct K w C k v) (t : ∀ p ∈ l, KDct K w C p.1 p.2) : ∀ p ∈ (k, v) :: l, KDct K w C p.1 p.2 := fun p hp => by
  rcases List.mem_cons.mp hp with e | e
  · subst e; exact h
  · exact t p e
section
variable {X : Cx}
theorem pe_ktup {x : Str} {xs : List V} {pos : Pos} (hg : Gl X x) (h : KTp X.K X.mg x xs) (hd : (x == ("__debug__" : Str)) = false := by decide) : PE X (.Name x pos) (tC (.ref (ca X.mg x))) := pe_glob hg h.m rfl hd
def rUpper : V → List V → Hp → VK → Prop := fun x xs H Q => ∃ a, x = .str a ∧ xs = [] ∧ a.length ≤ 5592405 ∧ Q (.str (Txt.upper a)) H
theorem m_upper : MtR X "str.upper" rUpper := mt_upper
theorem pe_dgetD {o e f : Expr} {td ty tx : TE} {apos cpos : Pos} (hu : X.A.units + 1 < cLine) (ho : PE X o td) (he : PE X e ty) (hf : PE X f tx) (m : M2 X o "get" apos e f cpos) : PE X (.Call (.Attribute o "get" apos) [e, f] [] cpos) (tDGet2 td ty tx) :=
  pe_dget2 hu ho he hf m
end
section
variable {K : PySem.W.Frag} {w : World} {σ : L2.St} {H : Hp} {Q : VK} {l : List Nat} {i : Int} {c : Nat}
theorem ixS1 (a : atI l i = some c) (hz : l.length ≤ sizeLine) (q : Q (.str (S [c])) H) : rIxS (.str (S l)) (.int i) H Q := ⟨S l, i, c, rfl, rfl, by rw [S_len]; exact hz, a, q⟩
theorem wstr {te : TE} {R : It → Hp → Prop} (h : te σ H fun v H1 => ∃ x, v = .str x ∧ R (Its x) H1) : iStr te σ H R := h
theorem upS (h : l.all (· < 128) = true) (hl : l.length ≤ 1000) (q : Q (.str (S (l.map up1))) H) : rUpper (.str (S l)) [] H Q := ⟨_, rfl, rfl, by rw [S_len]; omega, by rw [SX.upper_S h]; exact q⟩
theorem inV_S {s : List Nat} : ∀ {ls : List (List Nat)}, inV (.str (S s)) (ls.map fun a => V.str (S a)) = decide (s ∈ ls)
  | [] => rfl
  | a :: ls => by
    show (eqV (.str (S a)) (.str (S s)) || inV (.str (S s)) (ls.map fun a => V.str (S a))) = _
    rw [inV_S]
    show ((S a == S s) || _) = _
    rw [SX.S_beq_eq]
    by_cases h : a = s
    · subst h; simp
    · rw [decide_eq_false h, Bool.false_or]
      congr 1
      exact propext ⟨fun z => List.mem_cons_of_mem _ z, fun z => by
        rcases List.mem_cons.mp z with z | z
        · exact absurd z.symm h
        · exact z⟩
theorem flat_S : ∀ (ls : List (List Nat)), (ls.map fun a => V.str (S a)).all flatV = true
  | [] => rfl
  | a :: ls => flat_S ls
/-- a text in a tuple, a list of texts -/
theorem inT (ls : List (List Nat)) {p : Addr} {xs : List V} {s : List Nat} (h : SqT K H p xs) (e : xs = ls.map fun a => V.str (S a)) (q : Q (.bl (decide (s ∈ ls))) H) : rIn K false (.str (S s)) (.ref p) H Q := by
  subst e
  exact ⟨p, _, rfl, .inr h, rfl, flat_S ls, by rw [inV_S]; exact q⟩
theorem inL (ls : List (List Nat)) {p : Addr} {xs : List V} {s : List Nat} (h : SqL K H p xs) (e : xs = ls.map fun a => V.str (S a)) (q : Q (.bl (decide (s ∈ ls))) H) : rIn K false (.str (S s)) (.ref p) H Q := by
  subst e
  exact ⟨p, _, rfl, .inl h, rfl, flat_S ls, by rw [inV_S]; exact q⟩
/-- a sign in a text -/
def rInSign : R2 := fun x y H Q => ∃ (c : Nat) (z : Str), x = .str ⟨#[c]⟩ ∧ y = .str z ∧ Q (.bl (decide (c ∈ z.cps.toList))) H
theorem op_inSign {X : Cx} : OpR X (compareOp .In) rInSign := op_in_sign
theorem inSign (q : Q (.bl (decide (c ∈ l))) H) : rInSign (.str (S [c])) (.str (S l)) H Q := ⟨c, S l, rfl, rfl, q⟩
theorem ixK {nm : Str} {mg : MG} {ls : List (Str × V)} {s : Str} {v : V} (h : KDc K w mg nm ls) (m : (s, v) ∈ ls) (q : Q v H) : rIxD K w (.ref (ca mg nm)) (.str s) H Q := ⟨_, _, _, rfl, rfl, h.s _ m, q⟩
/-- displays of one and two pairs -/
theorem disp1 {a : Str} {v : V} (q : ∀ p, H p = none → Q (.ref p) (upd (upd H p (.dK [])) p (.dK [(.inr a, v)]))) : tDisp [(tC (.str a), tC v)] σ H Q := fun p hp =>
  ⟨upd_same, [(.inr a, v)], rfl, show 1 ≤ 15 by decide, q p hp⟩
theorem disp2 {a b : Str} {v u : V} (ne : ¬ a = b) (q : ∀ p, H p = none → Q (.ref p) (upd (upd H p (.dK [])) p (.dK [(.inr a, v), (.inr b, u)]))) : tDisp [(tC (.str a), tC v), (tC (.str b), tC u)] σ H Q := fun p hp =>
  ⟨upd_same, [(.inr a, v), (.inr b, u)], rfl, show 2 ≤ 15 by decide, by
    have e : mergeK [] [((Sum.inr a : Key), v), ((Sum.inr b : Key), u)] = [((Sum.inr a : Key), v), ((Sum.inr b : Key), u)] := by
      show putK (putK ([] : List (Key × V)) (Sum.inr a) v) (Sum.inr b) u = _
      have e1 : putK ([] : List (Key × V)) (Sum.inr a) v = [((Sum.inr a : Key), v)] := rfl
      rw [e1]
      unfold putK
      rw [if_neg (by simp [ne])]
      rfl
    rw [e]; exact q p hp⟩
theorem same_disp {p : Addr} {o u : HO} (hp : H p = none) : Same H (upd (upd H p o) p u) := fun b x e => by
  rw [upd_ne (ne_of_none e hp), upd_ne (ne_of_none e hp)]; exact e
end
end WP
namespace WP
open PySem PySem.Spec PyProof.Rows L2
theorem bm0 {K : PySem.W.Frag} {σ : L2.St} {H : Hp} {Q : VK} {T : String} {r : V → List V → Hp → VK → Prop} {to : TE} (h : to σ H fun x H1 => tyV K T x H1 ∧ r x [] H1 Q) : tBM0 K T r to σ H Q := h
/-- a for over the signs of a text -/
theorem for_txt {l : List Nat} {g : TG} {tb : TS} {D : Ends} {σ : L2.St} {H : Hp} (Pv : Nat → L2.St → Hp → Prop) (h0 : Pv 0 σ H)
    (hs : ∀ i c σ H, l[i]? = some c → Pv i σ H → g (.str (SX.S [c])) σ H fun σ2 H2 => tb { D with nx := Pv (i + 1), ct := Pv (i + 1), bk := D.nx } σ2 H2) (hd : ∀ σ H, Pv l.length σ H → D.nx σ H) :
    ∃ W : Nat → Nat → L2.St → Hp → Prop, (∃ m, W 0 m σ H) ∧ ∀ i m σ H, W i m σ H →
      ((Its (SX.S l)).stop i H ∧ D.nx σ H) ∨ ((Its (SX.S l)).go i H ∧ ∃ N : L2.St → Hp → Prop, (∀ σ' H', N σ' H' → ∃ m', m' < m ∧ W (i + 1) m' σ' H') ∧ ∀ x H', (Its (SX.S l)).yld i H x H' → g x σ H' fun σ2 H2 => tb { D with nx := N, ct := N, bk := D.nx } σ2 H2) := by
  have e : (SX.S l).cps.size = l.length := by simp [SX.S]
  refine for_it walk_str Pv h0 (fun _ _ _ _ _ => True.intro) (fun i x σ H H' hi p y => ?_) fun σ H p => hd σ H (by rw [← e]; exact p)
  obtain ⟨rfl, c, hc, rfl⟩ := y
  refine hs i c σ H' ?_ p
  simpa [SX.S] using hc
end WP
namespace WP
open PySem PySem.Spec PyProof.Rows L2
theorem pe_kdict {X : Cx} {x : Str} {xs : List (Str × V)} {pos : Pos} (hg : Gl X x) (h : KDc X.K X.w X.mg x xs) (hd : (x == ("__debug__" : Str)) = false := by decide) : PE X (.Name x pos) (tC (.ref (ca X.mg x))) := pe_glob hg h.m rfl hd
end WP
namespace WP
open PySem PySem.Spec PyProof.Rows L2
theorem lc {wi : TI} {g : TG} {tt : TT} {te : TE} {vs : List Nat} {σ : L2.St} {H : Hp} {Q : VK} (h : wi σ H fun J H1 => ∀ D, H1 D = none → ∃ W : Nat → Nat → Hp → Prop, (∃ m, W 0 m (upd H1 D (.lst []))) ∧ ∀ i m H, W i m H →
    (J.stop i H ∧ Q (.ref D) H) ∨ (J.go i H ∧ ∃ Nx : Hp → Prop, (∀ H', Nx H' → ∃ m', m' < m ∧ W (i + 1) m' H') ∧ ∀ x H', J.yld i H x H' → g x (wipe σ vs) H' fun σ2 H2 => wipe σ2 vs = wipe σ vs ∧ tt σ2 H2 fun b H3 =>
      if b = true then te σ2 H3 fun y H4 => ∃ acc, H4 D = some (.lst acc) ∧ acc.length < sizeLine ∧ Nx (upd H4 D (.lst (acc ++ [y]))) else Nx H3)) : tLc wi g tt te vs σ H Q := h
theorem lc_txt {l : List Nat} {g : TG} {tt : TT} {te : TE} {vs : List Nat} {σ : L2.St} {H1 : Hp} {D : Addr} {Qd : Hp → Prop} (Pv : Nat → Hp → Prop) (h0 : Pv 0 (upd H1 D (.lst [])))
    (hs : ∀ i c H, l[i]? = some c → Pv i H → g (.str (SX.S [c])) (wipe σ vs) H fun σ2 H2 => wipe σ2 vs = wipe σ vs ∧ tt σ2 H2 fun b H3 =>
      if b = true then te σ2 H3 fun y H4 => ∃ acc, H4 D = some (.lst acc) ∧ acc.length < sizeLine ∧ Pv (i + 1) (upd H4 D (.lst (acc ++ [y]))) else Pv (i + 1) H3) (hd : ∀ H, Pv l.length H → Qd H) :
    ∃ W : Nat → Nat → Hp → Prop, (∃ m, W 0 m (upd H1 D (.lst []))) ∧ ∀ i m H, W i m H →
      ((Its (SX.S l)).stop i H ∧ Qd H) ∨ ((Its (SX.S l)).go i H ∧ ∃ Nx : Hp → Prop, (∀ H', Nx H' → ∃ m', m' < m ∧ W (i + 1) m' H') ∧ ∀ x H', (Its (SX.S l)).yld i H x H' → g x (wipe σ vs) H' fun σ2 H2 => wipe σ2 vs = wipe σ vs ∧ tt σ2 H2 fun b H3 =>
        if b = true then te σ2 H3 fun y H4 => ∃ acc, H4 D = some (.lst acc) ∧ acc.length < sizeLine ∧ Nx (upd H4 D (.lst (acc ++ [y]))) else Nx H3) := by
  have e : (SX.S l).cps.size = l.length := by simp [SX.S]
  refine lc_it walk_str Pv h0 (fun _ _ _ _ => True.intro) (fun i x H H' hi p y => ?_) fun H p => hd H (by rw [← e]; exact p)
  obtain ⟨rfl, c, hc, rfl⟩ := y
  refine hs i c H' ?_ p
  simpa [SX.S] using hc
theorem at_S {ls : List (List Nat)} {i : Int} (h0 : 0 ≤ i) (h1 : i < (ls.length : Int)) : ∃ a ∈ ls, atI (ls.map fun a => V.str (SX.S a)) i = some (.str (SX.S a)) := by
  obtain ⟨j, rfl⟩ : ∃ j : Nat, i = (j : Int) := ⟨i.toNat, by omega⟩
  have hj : j < ls.length := by omega
  exact ⟨ls[j], List.getElem_mem hj, atI_nat (by rw [List.getElem?_map, List.getElem?_eq_getElem hj]; rfl)⟩
end WP
namespace WP
open PySem PySem.Spec PyProof.Rows L2
theorem dget2 {td ty tx : TE} {σ : L2.St} {H : Hp} {Q : VK} (h : td σ H fun x H1 => ∃ a, x = .ref a ∧ IsD H1 a ∧ ty σ H1 fun y H2 => tx σ H2 fun z H3 => ∃ o, DGet H3 a y o ∧ Q (o.getD z) H3) : tDGet2 td ty tx σ H Q := h
theorem dget {td ty : TE} {σ : L2.St} {H : Hp} {Q : VK} (h : td σ H fun x H1 => ty σ H1 fun y H2 => ∃ a v, x = .ref a ∧ DGet H2 a y (some v) ∧ Q v H2) : tDGet td ty σ H Q := h
theorem at_I {ls : List Int} {i : Int} (h0 : 0 ≤ i) (h1 : i < (ls.length : Int)) : ∃ a, atI (ls.map V.int) i = some (.int a) := ⟨_, at_ints h0 h1⟩
theorem valV1 {a c : List Nat} {v : V} : valV [((Sum.inr (SX.S a) : Key), v)] (Sum.inr (SX.S c)) = if a = c then some v else none := by
  by_cases h : a = c
  · subst h; rw [if_pos rfl]; exact valV_pos rfl
  · rw [if_neg h]; exact (valV_neg fun e => h (SX.S_inj (Sum.inr.inj e))).trans valV_nil
theorem valV2 {a b c : List Nat} {v u : V} : valV [((Sum.inr (SX.S a) : Key), v), ((Sum.inr (SX.S b) : Key), u)] (Sum.inr (SX.S c)) = if a = c then some v else if b = c then some u else none := by
  by_cases h : a = c
  · subst h; rw [if_pos rfl]; exact valV_pos rfl
  · rw [if_neg h]; exact (valV_neg fun e => h (SX.S_inj (Sum.inr.inj e))).trans valV1
end WP
namespace WP
open PySem PySem.Spec PyProof.Rows L2
theorem andOr {σ : L2.St} {H : Hp} {Q : VK} {ta tb tc : TE} {x y z : Bool} (ha : ∀ Q : VK, Q (.bl x) H → ta σ H Q) (hb : ∀ Q : VK, Q (.bl y) H → tb σ H Q) (hc : ∀ Q : VK, Q (.bl z) H → tc σ H Q)
    (q : Q (.bl (x && (y || z))) H) : tAndV ta (tOrV tb tc) σ H Q := by
  refine WP.andV (ha _ ⟨x, rfl, ?_⟩)
  cases x with
  | false => exact q
  | true =>
    refine WP.brT rfl (WP.orV (hb _ ⟨y, rfl, ?_⟩))
    cases y with
    | true => exact q
    | false => exact WP.brF rfl (hc _ q)
end WP
namespace WP
open PySem PySem.Spec PyProof.Rows L2
def rNotInSign : R2 := fun x y H Q => ∃ (c : Nat) (z : Str), x = .str ⟨#[c]⟩ ∧ y = .str z ∧ Q (.bl (!decide (c ∈ z.cps.toList))) H
theorem op_notInSign {X : Cx} : OpR X (compareOp .NotIn) rNotInSign := op_notIn_sign
theorem notInSign {c : Nat} {l : List Nat} {H : Hp} {Q : VK} (q : Q (.bl (!decide (c ∈ l))) H) : rNotInSign (.str (SX.S [c])) (.str (SX.S l)) H Q := ⟨c, SX.S l, rfl, rfl, q⟩
end WP
namespace WP
open PySem PySem.Spec PyProof.Rows L2
theorem chain {r r' : R2} {ta tb tc : TE} {σ : L2.St} {H : Hp} {Q : VK} (h : ta σ H fun x H1 => tb σ H1 fun y H2 => r x y H2 fun z H3 => ∃ k, z = .bl k ∧ (if k = true then tc σ H3 fun w' H4 => r' y w' H4 Q else Q (.bl false) H3)) : tChain r r' ta tb tc σ H Q := h
theorem notInL {K : PySem.W.Frag} {H : Hp} {Q : VK} (ls : List (List Nat)) {p : Addr} {xs : List V} {s : List Nat} (h : SqL K H p xs) (e : xs = ls.map fun a => V.str (SX.S a)) (q : Q (.bl (!decide (s ∈ ls))) H) : rIn K true (.str (SX.S s)) (.ref p) H Q := by
  subst e
  exact ⟨p, _, rfl, .inl h, rfl, flat_S ls, by rw [inV_S]; exact q⟩
end WP
namespace WP
open PySem PySem.Spec PyProof.Rows L2
theorem yes {σ : L2.St} {H : Hp} {t : Hp → Prop} {u : Hp → Prop} (h : t H) : tYes σ H (fun b H3 => if b = true then t H3 else u H3) := by
  show (if true = true then t H else u H)
  rw [if_pos rfl]; exact h
end WP
namespace WP
open PySem PySem.Spec PyProof.Rows L2
/-- text[i:j], both from the front -/
theorem slice_both {l : List Nat} {i j : Int} (h0 : 0 ≤ i) (h1 : i ≤ j) : Txt.slice (SX.S l) (some i) (some j) = SX.S ((l.drop i.toNat).take (j - i).toNat) := by
  have hl : ((SX.S l).length : Int) = (l.length : Int) := by rw [SX.S_len]
  by_cases hj : j ≤ (l.length : Int)
  · exact beq_iff_eq.mp (PyProof.Rows.slice_closesL (x := SX.S l) h0 h1 (by omega))
  · have e2 : Txt.slice (SX.S l) (some i) (some j) = Txt.slice (SX.S l) (some i) (some (l.length : Int)) := by
      unfold Txt.slice
      rw [SX.S_len, SX.idx_hi (by omega)]
    rw [e2]
    by_cases hi : i ≤ (l.length : Int)
    · have e := beq_iff_eq.mp (PyProof.Rows.slice_closesL (x := SX.S l) (j := (l.length : Int)) h0 hi (by omega))
      refine e.trans ?_
      show SX.S ((l.drop i.toNat).take ((l.length : Int) - i).toNat) = _
      rw [List.take_of_length_le (by rw [List.length_drop]; omega), List.take_of_length_le (by rw [List.length_drop]; omega)]
    · have e3 : Txt.slice (SX.S l) (some i) (some (l.length : Int)) = SX.S [] := by
        have hb := PyProof.Rows.slice_beyond (x := SX.S l) (i := i) (by omega)
        have hf := SX.slice_from (a := l) h0
        have e4 : Txt.slice (SX.S l) (some i) (some (l.length : Int)) = Txt.slice (SX.S l) (some i) none := by
          unfold Txt.slice
          rw [SX.S_len]
          have a1 : ¬ ((l.length : Int) < 0) := by omega
          have a2 : (1 : Int) > 0 := by decide
          simp only [Builtin.Str.strSliceIndices, a1, a2, if_false, if_true, Int.min_self, Int.max_eq_right (Int.natCast_nonneg l.length)]
        rw [e4, hf, List.drop_eq_nil_of_le (by omega)]
      rw [e3, List.drop_eq_nil_of_le (by omega), List.take_nil]
theorem slBoth {l : List Nat} {i j : Int} {H : Hp} {Q : VK} (h0 : 0 ≤ i) (h1 : i ≤ j) (h : l.length ≤ sizeLine) (q : Q (.str (SX.S ((l.drop i.toNat).take (j - i).toNat))) H) : rSlS (.str (SX.S l)) (some i) (some j) H Q := slS _ (by rw [SX.S_len]; exact h) (by rw [slice_both h0 h1]; exact q)
end WP

namespace WP
open PySem PySem.Spec PyProof.Rows L2 GxR
section
variable {X : Cx} {pins : List (Addr × Obj)} {σ : L2.St} {H : Hp} {s : Shared}
/-- the generator expression's scope in the def's scope sc -/
structure GenSc (sc scope : Scope) (x : Str) : Prop where
  kind : scope.kind = .function
  co : scope.isCoroutine = false
  cell : ∀ y ∈ scope.names, y.2 ≠ .cell
  dot : scope.names.lookup (".0" : Str) = some NameKind.local
  loc : scope.names.lookup x = some .local
  free : ∀ y ∈ scope.names, y.2 = .free → sc.names.lookup y.1 = some .cell ∨ sc.names.lookup y.1 = some .free
def gscB (sc scope : Scope) (x : Str) : Bool :=
  decide (scope.kind = .function) && !scope.isCoroutine && scope.names.all (fun y => !decide (y.2 = .cell)) && decide (scope.names.lookup (".0" : Str) = some NameKind.local) && decide (scope.names.lookup x = some .local) &&
    scope.names.all (fun y => !decide (y.2 = .free) || decide (sc.names.lookup y.1 = some .cell ∨ sc.names.lookup y.1 = some .free))
theorem gsc_by {sc scope : Scope} {x : Str} (h : gscB sc scope x = true) : GenSc sc scope x := by
  unfold gscB at h
  simp only [Bool.and_eq_true, Bool.not_eq_true', decide_eq_true_eq, List.all_eq_true, Bool.or_eq_true, decide_eq_false_iff_not] at h
  obtain ⟨⟨⟨⟨⟨h1, h2⟩, h3⟩, h4⟩, h5⟩, h6⟩ := h
  exact ⟨h1, h2, h3, h4, h5, fun y hy e => (h6 y hy).elim (fun z => absurd e z) id⟩
/-- what the walked thing xv gives in the state s1: n items, the i-th one as Pf tells -/
def ItOk (X : Cx) (P : Addr) (s1 : Shared) (xv : Value) (n : Nat) (Pf : Nat → Value → Prop) : Prop :=
  ∃ fpx : List Addr, (∀ b ∈ fpx, b < s1.heap.objs.size ∧ b ≠ P) ∧ ∀ (Q : Value → Shared → Prop),
    (∀ (o : Obj) (St : Nat → Heap → Prop), (∀ A' : Around, A'.handled = none → Walks X.prog X.w A' s1.heap.objs.size (s1.heap.objs.size :: fpx) [s1.heap.objs.size] n Pf St) → St 0 (s1.heap.push o) →
      Q (.ref s1.heap.objs.size) { s1 with heap := s1.heap.push o }) → wpAny (model X.prog X.w) X.A (pyIter xv) Q X.xe s1
theorem itOk_str {P : Addr} {s1 : Shared} {a : Str} {t : Tok} : ItOk X P s1 (.str a t) a.cps.size (SignAt a) :=
  ⟨[], (fun b hb => by cases hb), fun Q h => wpAny_pyIter_str fun o St W hst => h o St W hst⟩
theorem itOk_list {P : Addr} {s1 : Shared} {q : Addr} {its : Array Value} (hl : s1.heap.IsList q its) (hP : q ≠ P) : ItOk X P s1 (.ref q) its.size (fun i v => its[i]? = some v) := by
  obtain ⟨ol, hol, _⟩ := _root_.id hl
  have hlt := Heap.lt_size hol
  refine ⟨[q], fun b hb => ?_, fun Q h => wpAny_pyIter_list hl (h _ _ (fun A' hA => Walks.list hA _ q (Nat.ne_of_lt hlt) its) ⟨⟨_, Heap.get?_push_size _ rfl, rfl, rfl⟩, hl.push _⟩)⟩
  rcases List.mem_cons.mp hb with z | z
  · rw [z]; exact ⟨hlt, hP⟩
  · cases z
/-- the element in the generator's own frame -/
def EltG (X : Cx) (P : Addr) (scope : Scope) (x : Str) (elt : Expr) (s1 : Shared) (Pf : Nat → Value → Prop) (pb : Nat → Bool) : Prop :=
  ∀ (cenv : Env) (A' : Around) (E' : Value → Shared → Prop) (i : Nat) (v : Value) (s₂ : Shared) (m₂ : Str → Option Value), cenv.scope = scope → cenv.globals = X.env.globals → cenv.cells = cloFrom X.env.cells scope.names [] → A'.handled = none → Pf i v →
    s₂.heap.Ns cenv.locals m₂ → m₂ x = some v → (∀ b u, b ≠ P → s1.heap.get? b = some u → s₂.heap.get? b = some u) →
    wpAny (model X.prog X.w) A' (eval elt cenv) (fun y s₃ => y = .bool (pb i) ∧ Keeps s₂ s₃) E' s₂
def ReadyN (X : Cx) (pins : List (Addr × Obj)) (σ : L2.St) (H1 : Hp) (P : Addr) (n : Nat) (pb : Nat → Bool) (g : Addr) (s5 : Shared) : Prop :=
  ∃ (fp wr : List Addr) (G : Array GenState → Array GenState → Prop) (F : Nat → Value → Prop) (St : Nat → Shared → Prop),
    WalksS X.prog X.w X.A.in1 g fp wr G n F St ∧ St 0 s5 ∧ TruthOf X.prog X.w X.A.in1 F pb ∧ ∀ s', Moved wr G s5 s' → ∃ H2, Tabbed P H1 H2 ∧ Inv X pins σ H2 s'
theorem gen_go {c P : Addr} {elt iter : Expr} {x : Str} {px gpos : Pos} {scope : Scope} {te : TE} {k : Nat} {Q' : Value → Shared → Prop} {R : V → Hp → Prop}
    (hr : Room k X.A) (TB : TabB X.base X.mg c P) (hcode : X.env.code = .ref c) (S : GenSc X.env.scope scope x) (hi : PE X iter te)
    (hs : ∀ v, genFold iter X.env v = pure v) (I : Inv X pins σ H s) (h : te σ H fun v H1 => TabG H1 P ∧ R v H1)
    (hw : ∀ v xv H1 s1, TabG H1 P → R v H1 → RelV v xv → Inv X pins σ H1 s1 → ∃ n Pf pb, ItOk X P s1 xv n Pf ∧ EltG X P scope x elt s1 Pf pb ∧ ∀ g s5, ReadyN X pins σ H1 P n pb g s5 → Q' (.ref g) s5) :
    wpAny (model X.prog X.w) X.A (eval (.GeneratorExp elt [⟨.Name x px, iter, [], 0⟩] scope gpos) X.env) Q' X.xe s := by
  refine wpAny_GeneratorExp_walksQ hr.hd S.co (closure_ok fun y hy e => I.ok.has y.1 (S.free y hy e)) S.cell S.dot S.loc S.kind (by have := hr.dp; omega) ?_ hs
  refine thn (hi.run pins s σ H _ I h) fun xv s1 ⟨v, H1, I1, r1, ⟨ps, hP, ht⟩, q1⟩ => ?_
  obtain ⟨n, Pf, pb, ⟨fpx, hfpx, hIt⟩, hel, hQ⟩ := hw v xv H1 s1 ⟨ps, hP, ht⟩ q1 r1 I1
  refine hIt _ fun o St W hst => ?_
  have hPs : s1.heap.get? P = some { cls := .none, data := .fields ps } := I1.hok P _ hP
  have hPlt : P < s1.heap.objs.size := Heap.lt_size hPs
  have hP2 : (s1.heap.push o).get? P = some { cls := .none, data := .fields ps } := Heap.get?_push_of_some _ hPs
  have cd : PySem.W.CodeHd (s1.heap.push o) c P := TB.code.keeps fun b u e => Heap.get?_push_of_some _ (I1.bk b u e)
  have lim2 : (s1.heap.push o).NoLimit := I1.nolimit.push o
  have cont : ∀ (code : Value) (h3 : Heap) (tk : Nat) (ps' : Array Value), Heap.ExtBut P (s1.heap.push o) h3 → (s1.heap.push o).objs.size ≤ h3.objs.size → h3.get? P = some { cls := .none, data := .fields ps' } → (∃ more, ps' = ps ++ more) → TriplesOk ps'.toList →
      wpAny (model X.prog X.w) X.A (builtinsFor X.env.globals X.env.builtins) (fun bi s₄ =>
        ∃ Ia fp wr n₀ Pf St₀ pz F, Value.ref s1.heap.objs.size = .ref Ia ∧ (∀ A' : Around, A'.handled = none → Walks X.prog X.w A' Ia fp wr n₀ Pf St₀) ∧ St₀ 0 s₄.heap ∧ (∀ b ∈ fp, b < s₄.heap.objs.size) ∧ s₄.heap.NoLimit ∧ cStatics ∉ wr ∧
          (∀ href : Heap, (∀ b o, s₄.heap.get? b = some o → href.get? b = some o) →
            QuietGen X.prog X.w (genEnv scope (cloFrom X.env.cells scope.names []) s₄.heap.objs.size code bi X.env) x [] elt (List.range s₄.heap.objs.size) wr Pf pz F href) ∧
          (∀ a h₅ tk gs, gs.bare = true → s₄.heap.objs.size < a → h₅.objs.size = a + 1 → (∀ b o, s₄.heap.get? b = some o → h₅.get? b = some o) →
            WalksS X.prog X.w X.A.in4 a (a :: s₄.heap.objs.size :: List.range s₄.heap.objs.size) (s₄.heap.objs.size :: wr) (GenOnlyQ s₄.gens.size) (passing pz n₀ 0).length
              (fun j y => ∃ i, (passing pz n₀ 0)[j]? = some i ∧ F i y) (GenAt X.prog X.w X.A.in4 a s₄.gens.size s₄.heap.objs.size (List.range s₄.heap.objs.size) wr pz n₀ F) →
            GenAt X.prog X.w X.A.in4 a s₄.gens.size s₄.heap.objs.size (List.range s₄.heap.objs.size) wr pz n₀ F 0 { s₄ with gens := s₄.gens.push gs, toks := tk, heap := h₅ } →
            Q' (.ref a) { s₄ with gens := s₄.gens.push gs, toks := tk, heap := h₅ })) X.xe { s1 with heap := h3, toks := tk } := by
    intro code h3 tk ps' hx hsz hP3 hmore ht3
    obtain ⟨bm, ob, e1, e2, e3, e4, e5, e6, e7, e8⟩ := TB.bm
    have hcP : cStatics ≠ P := fun e => by
      obtain ⟨_, hns, _⟩ := I1.nolimit
      obtain ⟨o', es, ep, ho, hd, _⟩ := hns
      rw [e, hPs] at ho
      cases ho
      cases hd
    have hcl : cStatics < s1.heap.objs.size := let ⟨_, hns, _⟩ := I1.nolimit; hns.lt
    have sz2 : (s1.heap.push o).objs.size = s1.heap.objs.size + 1 := Heap.size_push ..
    have le3 : s1.heap.objs.size ≤ h3.objs.size := Nat.le_trans (Nat.le_succ _) (by have e := sz2; rw [e] at hsz; exact hsz)
    have keep3 : ∀ b u, b ≠ P → s1.heap.get? b = some u → h3.get? b = some u := fun b u hb e => hx b u hb (Heap.get?_push_of_some _ e)
    refine wpAny_builtinsFor (m := X.mg) (by rw [I1.ok.glob]; exact ((I1.mod.glob.keeps I1.bk).push o).extBut hx TB.gP) e1 e2 (keep3 _ _ e4 (I1.bk _ _ e5)) e6 e7 e8 ?_
    refine ⟨s1.heap.objs.size, s1.heap.objs.size :: fpx, [s1.heap.objs.size], n, Pf, St, (fun _ => true), (fun i y => y = .bool (pb i)), rfl, W, ?_, ?_, lim2.extBut hx hcP, ?_, ?_, ?_⟩
    · refine (W X.A hr.hd).frame _ _ _ hst fun b hb u e => hx b u (fun z => ?_) e
      rcases List.mem_cons.mp hb with z2 | z2
      · exact Nat.ne_of_lt hPlt (z.symm.trans z2)
      · exact (hfpx b z2).2 z
    · intro b hb
      rcases List.mem_cons.mp hb with z | z
      · rw [z]
        show s1.heap.objs.size < h3.objs.size
        omega
      · exact Nat.lt_of_lt_of_le (hfpx b z).1 le3
    · intro z
      rcases List.mem_cons.mp z with z | z
      · exact Nat.ne_of_lt hcl z
      · cases z
    · intro href hhref
      refine ⟨fun A' E' i v s₂ m₂ hA hPv hn hm hk => ?_, fun A' E' i v s₂ m₂ hA hPv hp hn hm hk => ?_⟩
      · simp only [List.forIn_nil]
        exact wpAny_pure ⟨rfl, keeps_refl _⟩
      · refine hel _ A' E' i v s₂ m₂ rfl rfl rfl hA hPv hn hm fun b u hb e => ?_
        have hlt := Heap.lt_size e
        refine hk b (List.mem_range.mpr ?_) (fun z => ?_) u (hhref b u (keep3 b u hb e))
        · exact Nat.lt_of_lt_of_le hlt le3
        · rcases List.mem_cons.mp z with z | z
          · exact Nat.ne_of_lt hlt z
          · cases z
    · intro g h5 tk5 gs hgb hag hsz5 hk5 W5 hat
      simp only [GxR.passing_true, List.length_range] at W5
      refine hQ g _ ⟨_, _, _, _, _, W5.in4_1, hat, ?_, fun s' hm => ?_⟩
      · intro j y sj Qj Ej hy hQj
        obtain ⟨i, hij, rfl⟩ := hy
        obtain ⟨hj, ej⟩ := List.getElem?_eq_some_iff.mp hij
        rw [List.getElem_range] at ej
        subst ej
        exact wpAny_truthy_bool hQj
      · obtain ⟨more, em⟩ := hmore
        have nwr : ∀ b u, s1.heap.get? b = some u → b ∉ h3.objs.size :: [s1.heap.objs.size] := fun b u e hb => by
          have hl := Heap.lt_size e
          rcases List.mem_cons.mp hb with z | z
          · rw [z] at hl
            have h9 : (h3.objs.size : Nat) < s1.heap.objs.size := hl
            omega
          · rcases List.mem_cons.mp z with z | z
            · rw [z] at hl
              exact Nat.lt_irrefl _ hl
            · cases z
        have J := inv_tab (more := more) (h' := s'.heap) (g' := s'.gens) (d' := s'.drawn) (t' := s'.toks) I1 hP (fun b u hb e => hm.heap b u (nwr b u e) (hk5 b u (keep3 b u hb e)))
          (by rw [← em]; exact hm.heap P _ (nwr P _ hPs) (hk5 P _ hP3)) (AllBare.movedS (I1.bare.push hgb) hm)
        rw [sh_eta s1 s' hm.os] at J
        refine ⟨upd H1 P (.tbl (ps ++ more)), ⟨⟨ps ++ more, upd_same, by rw [← em]; exact ht3⟩, fun b hb => upd_ne hb⟩, J⟩
  refine ⟨lim2, ?_⟩
  cases hf : codeAmong gpos ps.toList with
  | none =>
    refine wpAny_genexprCodeX hcode (cd.code hP2 ht) (cd.tab hP2) hf fun c' h' tk hx hge hlt hco' _ htab' _ => ?_
    obtain ⟨o1, vs, f1, tf, fl, tg, inF, tx, tt, op, _, _, _, _, _, _, _, _, _, htr, _⟩ := hco'
    exact cont _ h' tk _ hx (Nat.le_trans hge (Nat.le_of_lt hlt)) htab'.2 ⟨_, rfl⟩ htr
  | some cv =>
    refine wpAny_genexprCode_hit hcode (cd.code hP2 ht) hf ?_
    exact cont cv (s1.heap.push o) s1.toks ps (Heap.ExtBut.refl _ _) (Nat.le_refl _) hP2 ⟨#[], by simp⟩ ht
/-- cells of the def, seen from the generator -/
theorem clo_look {cells : List (Str × Addr)} {names : List (Str × NameKind)} {y : Str} {c : Addr} (hf : (y, NameKind.free) ∈ names) (hc : cells.lookup y = some c) : (cloFrom cells names []).lookup y = some c := by
  have h := cloFrom_has (cells := cells) (acc := []) hf
  obtain ⟨c', hc'⟩ := L2.mem_lookup h
  rw [hc']
  rcases cloFrom_mem (PySem.mem_of_lookup hc') with z | ⟨_, z⟩
  · cases z
  · rw [z, hc]; rfl
def trI (pb : Int → Bool) (l : List Int) (j : Nat) : Bool := match l[j]? with
  | some b => pb b
  | none => false
theorem trI_some {pb : Int → Bool} {l : List Int} {j : Nat} {b : Int} (h : l[j]? = some b) : trI pb l j = pb b := by
  unfold trI
  rw [h]
theorem all_trI (l : List Int) (pb : Int → Bool) : (List.range l.length).all (trI pb l) = l.all pb := by
  rw [Bool.eq_iff_iff, List.all_eq_true, List.all_eq_true]
  constructor
  · intro h b hb
    obtain ⟨j, hj, e⟩ := List.getElem_of_mem hb
    have q := h j (List.mem_range.mpr hj)
    rw [trI_some (List.getElem?_eq_getElem hj), e] at q
    exact q
  · intro h j hj
    have hj' := List.mem_range.mp hj
    rw [trI_some (List.getElem?_eq_getElem hj')]
    exact h _ (List.getElem_mem hj')
/-- x in y, y a captured text -/
theorem elt_in {P : Addr} {scope : Scope} {x y : Str} {p1 p2 p3 : Pos} {H1 : Hp} {s1 : Shared} {a z : Str} {i : Nat} (I1 : Inv X pins σ H1 s1) (hP : ∃ ps : Array Value, H1 P = some (.tbl ps))
    (hN : X.N[i]? = some y) (hv : σ[i]? = some (some (.str z))) (hk : X.env.scope.names.lookup y = some .cell) (hfr : (y, NameKind.free) ∈ scope.names) (hl : scope.names.lookup x = some .local) (hy : scope.names.lookup y = some .free) (hkd : scope.kind = .function)
    (hd : (x == ("__debug__" : Str)) = false := by decide) (hd2 : (y == ("__debug__" : Str)) = false := by decide) (hcd : (y == ("__classdict__" : Str)) = false := by decide) (hm : behindInMarks .In (.Name y p2) = false := by with_unfolding_all rfl) :
    EltG X P scope x (.Compare (.Name x p1) [.In] [.Name y p2] p3) s1 (SignAt a) (trF (fun c => decide (c ∈ z.cps.toList)) a.cps.toList) := by
  intro cenv A' E' j v s₂ m₂ e1 e2 e3 hA hPf hn hmx hkp
  obtain ⟨c, t, hc, rfl⟩ := hPf
  obtain ⟨m, hns, hloc⟩ := I1.loc
  obtain ⟨u, ru, lk⟩ := hloc i y _ hN hv (.inr (.inl hk))
  obtain ⟨t', rfl⟩ := _root_.id ru
  have hkk : X.env.kindOf y = some .cell := hk
  rcases lk with ⟨hk', _⟩ | ⟨_, cl, hcl, ⟨oc, hoc, hcd2⟩⟩
  · rw [hkk] at hk'; cases hk'
  have hcP : cl ≠ P := fun e => by
    obtain ⟨ps, hps⟩ := hP
    have q := I1.hok P _ hps
    have q' : s1.heap.get? P = some { cls := .none, data := .fields ps } := q
    rw [e, q'] at hoc
    cases hoc
    cases hcd2
  have ec : cenv.cells.lookup y = some cl := by rw [e3]; exact clo_look hfr hcl
  have hcell : s₂.heap.IsCell cl (some (.str z t')) := ⟨oc, hkp cl oc hcP hoc, hcd2⟩
  refine wpAny_Compare1 ?_ hm
  refine wpAny_Name (wpAny_loadName_local (by rw [e1]; exact hkd) (show cenv.scope.names.lookup x = some .local by rw [e1]; exact hl) hn hmx ?_) hd
  refine wpAny_Name (wpAny_loadName_free (by rw [e1]; exact hkd) (show cenv.scope.names.lookup y = some .free by rw [e1]; exact hy) ec hcell ?_ hcd) hd2
  refine PyProof.Rows.in_str ⟨?_, keeps_refl _⟩
  rw [trF_some (by rw [Array.getElem?_toList]; exact hc)]
  exact congrArg Value.bool (PySem.StrLaws.found_one z c)
/-- lo <= x <= hi and x != no, the three names of the module -/
theorem elt_rng {P : Addr} {scope : Scope} {x lo hi no : Str} {p1 p2 p3 p4 p5 p6 p7 p8 : Pos} {H1 : Hp} {s1 : Shared} {its : Array Value} {ns : List Int} {l h n : Int} {t1 t2 t3 : Tok} (I1 : Inv X pins σ H1 s1) (hP : ∃ ps : Array Value, H1 P = some (.tbl ps))
    (g1 : X.mg lo = some (.int l t1)) (g2 : X.mg hi = some (.int h t2)) (g3 : X.mg no = some (.int n t3)) (hv : Vals (ns.map V.int) its.toList)
    (hl : scope.names.lookup x = some .local) (k1 : scope.names.lookup lo = some .globalImplicit) (k2 : scope.names.lookup hi = some .globalImplicit) (k3 : scope.names.lookup no = some .globalImplicit) (hkd : scope.kind = .function)
    (d0 : (x == ("__debug__" : Str)) = false := by decide) (d1 : (lo == ("__debug__" : Str)) = false := by decide) (d2 : (hi == ("__debug__" : Str)) = false := by decide) (d3 : (no == ("__debug__" : Str)) = false := by decide) :
    EltG X P scope x (.BoolOp .And [.Compare (.Name lo p1) [.LtE, .LtE] [.Name x p2, .Name hi p3] p4, .Compare (.Name x p5) [.NotEq] [.Name no p6] p7] p8) s1 (fun i v => its[i]? = some v)
      (trI (fun c => decide (l ≤ c ∧ c ≤ h ∧ c ≠ n)) ns) := by
  intro cenv A' E' j v s₂ m₂ e1 e2 e3 hA hPf hn hmx hkp
  have hj : ∃ (c : Int) (tc : Tok), ns[j]? = some c ∧ v = .int c tc := by
    have hlen := hv.length
    obtain ⟨hjl, _⟩ := Array.getElem?_eq_some_iff.mp hPf
    have hj2 : j < ns.length := by simp only [List.length_map, Array.length_toList] at hlen; exact Nat.lt_of_lt_of_eq hjl hlen.symm
    obtain ⟨u, hu, ru⟩ := hv.get (i := j) (x := .int ns[j]) (by rw [List.getElem?_map, List.getElem?_eq_getElem hj2]; rfl)
    rw [Array.getElem?_toList, hPf] at hu
    cases hu
    obtain ⟨tc, rfl⟩ := ru
    exact ⟨_, tc, List.getElem?_eq_getElem hj2, rfl⟩
  obtain ⟨c, tc, hc, rfl⟩ := hj
  have kd : cenv.scope.kind = .function := by rw [e1]; exact hkd
  have gns : s₂.heap.Ns cenv.globals X.mg := by
    rw [e2, I1.ok.glob]
    obtain ⟨o, es, ep, ho, hd, r⟩ := I1.mod.glob.keeps I1.bk
    refine ⟨o, es, ep, hkp _ _ (fun e => ?_) ho, hd, r⟩
    obtain ⟨ps, hps⟩ := hP
    have q' : s1.heap.get? P = some { cls := .none, data := .fields ps } := I1.hok P _ hps
    rw [e, q'] at ho
    cases ho
    cases hd
  have ldx : ∀ {Q : Value → Shared → Prop} {pp : Pos}, Q (.int c tc) s₂ → wpAny (model X.prog X.w) A' (eval (.Name x pp) cenv) Q E' s₂ := fun q =>
    wpAny_Name (wpAny_loadName_local kd (show cenv.scope.names.lookup x = some .local by rw [e1]; exact hl) hn hmx q) d0
  have ldg : ∀ {y : Str} {val : Value} {Q : Value → Shared → Prop} {pp : Pos}, X.mg y = some val → scope.names.lookup y = some .globalImplicit → (y == ("__debug__" : Str)) = false → Q val s₂ → wpAny (model X.prog X.w) A' (eval (.Name y pp) cenv) Q E' s₂ := fun g k d q =>
    Calls.Name_function_global kd (show cenv.scope.names.lookup _ = some .globalImplicit by rw [e1]; exact k) (Calls.loadGlobal_global gns g q) d
  rw [trI_some hc]
  refine wpAny_And2 ?_
  refine Compare_chain (ldg g1 k1 d1 (chain_link (ldx (le_int ?_))))
  refine wpAny_truthy_bool ?_
  by_cases h1 : l ≤ c
  · rw [decide_eq_true h1]
    refine ite_tt (chain_last (ldg g2 k2 d2 (le_int ?_)))
    refine wpAny_truthy_bool ?_
    by_cases h2 : c ≤ h
    · rw [decide_eq_true h2]
      refine ite_tt (wpAny_Compare1 (ldx (ldg g3 k3 d3 (ne_int ?_))))
      refine ⟨?_, keeps_refl _⟩
      by_cases h3 : c = n
      · simp [h3]
      · simp [h1, h2, h3]
    · rw [decide_eq_false h2]
      exact ite_ff ⟨by simp [h2], keeps_refl _⟩
  · rw [decide_eq_false h1]
    refine ite_ff ?_
    refine wpAny_truthy_bool (ite_ff ⟨by simp [h1], keeps_refl _⟩)
/-- all(.. for x in e): the walked thing of the kind R, the answer b -/
theorem all_go {c P : Addr} {elt iter : Expr} {x : Str} {px p pos gpos : Pos} {scope : Scope} {te : TE} {Wf : V → Hp → L2.St → VK → Prop} {k : Nat}
    (hr : Room k X.A) (hg : Gl X "all") (hm : X.mg "all" = none) (hb : bootBuiltins "all" = some (.builtin "all")) (TB : TabB X.base X.mg c P) (hcode : X.env.code = .ref c) (S : GenSc X.env.scope scope x) (hi : PE X iter te)
    (hs : ∀ v, genFold iter X.env v = pure v)
    (he : starEach [.GeneratorExp elt [⟨.Name x px, iter, [], 0⟩] scope gpos] X.env = (false, eval (.GeneratorExp elt [⟨.Name x px, iter, [], 0⟩] scope gpos) X.env) :: starEach [] X.env)
    (hw : ∀ pins (σ : L2.St) (v : V) (xv : Value) (H1 : Hp) (s1 : Shared) (Q : VK), TabG H1 P → Wf v H1 σ Q → RelV v xv → Inv X pins σ H1 s1 → ∃ n Pf pb, ItOk X P s1 xv n Pf ∧ EltG X P scope x elt s1 Pf pb ∧ ∀ H2, Tabbed P H1 H2 → Q (.bl ((List.range n).all pb)) H2) :
    PE X (.Call (.Name "all" p) [.GeneratorExp elt [⟨.Name x px, iter, [], 0⟩] scope gpos] [] pos) (fun σ H Q => te σ H fun v H1 => TabG H1 P ∧ Wf v H1 σ Q) := by
  refine ⟨fun pins s σ H Q I h => ?_⟩
  refine wpAny_Call_Name_kw (ld_blt I hg hm hb ?_)
  refine PyProof.Rows.callWith_builtin1 ?_ he (by rfl)
  rw [he]
  show wpAny _ _ (spliced ((false, eval (.GeneratorExp elt [⟨.Name x px, iter, [], 0⟩] scope gpos) X.env) :: backTo pos (starEach [] X.env))) _ _ s
  refine Calls.spliced_cons (gen_go (R := fun v H1 => Wf v H1 σ Q) hr TB hcode S hi hs I h fun v xv H1 s1 hT q1 r1 I1 => ?_)
  obtain ⟨n, Pf, pb, h1, h2, h3⟩ := hw pins σ v xv H1 s1 Q hT q1 r1 I1
  refine ⟨n, Pf, pb, h1, h2, fun g s5 hG => ?_⟩
  obtain ⟨fp, wr, G, F, St, W, hst, htr, hI⟩ := hG
  refine Calls.spliced_nil ?_
  refine call_all_walkS (W.self 0 _ _ _ hst ⟨g, fp, wr, G, _, F, St, _, rfl, W, hst, htr, fun s' hmv => ?_⟩)
  obtain ⟨H2, hT, J⟩ := hI s' hmv
  exact ⟨.bl _, H2, J, rfl, h3 H2 hT⟩
/-- all(x in y for x in e), e and y texts; y the def's i-th name -/
def tAllC (P : Addr) (i : Nat) (te : TE) : TE := fun σ H Q => te σ H fun v H1 => TabG H1 P ∧ ∃ a z : Str, v = .str a ∧ σ[i]? = some (some (.str z)) ∧ ∀ H2, Tabbed P H1 H2 → Q (.bl (a.cps.toList.all fun c => decide (c ∈ z.cps.toList))) H2
theorem pe_allC {c P : Addr} {iter : Expr} {x y : Str} {px p pos gpos p1 p2 p3 : Pos} {scope : Scope} {te : TE} {k i : Nat}
    (hr : Room k X.A) (hg : Gl X "all") (hm : X.mg "all" = none) (hb : bootBuiltins "all" = some (.builtin "all")) (TB : TabB X.base X.mg c P) (hcode : X.env.code = .ref c) (S : GenSc X.env.scope scope x) (hi : PE X iter te)
    (hN : X.N[i]? = some y) (hk : X.env.scope.names.lookup y = some .cell) (hfr : (y, NameKind.free) ∈ scope.names) (hy : scope.names.lookup y = some .free)
    (hs : ∀ v, genFold iter X.env v = pure v)
    (he : starEach [.GeneratorExp (.Compare (.Name x p1) [.In] [.Name y p2] p3) [⟨.Name x px, iter, [], 0⟩] scope gpos] X.env = (false, eval (.GeneratorExp (.Compare (.Name x p1) [.In] [.Name y p2] p3) [⟨.Name x px, iter, [], 0⟩] scope gpos) X.env) :: starEach [] X.env := by rfl)
    (hd : (x == ("__debug__" : Str)) = false := by decide) (hd2 : (y == ("__debug__" : Str)) = false := by decide) (hcd : (y == ("__classdict__" : Str)) = false := by decide) (hmk : behindInMarks .In (Expr.Name y p2) = false := by with_unfolding_all rfl) :
    PE X (.Call (.Name "all" p) [.GeneratorExp (.Compare (.Name x p1) [.In] [.Name y p2] p3) [⟨.Name x px, iter, [], 0⟩] scope gpos] [] pos) (tAllC P i te) := by
  refine all_go (Wf := fun v H1 σ Q => ∃ a z : Str, v = .str a ∧ σ[i]? = some (some (.str z)) ∧ ∀ H2, Tabbed P H1 H2 → Q (.bl (a.cps.toList.all fun c => decide (c ∈ z.cps.toList))) H2) hr hg hm hb TB hcode S hi hs he fun pins σ v xv H1 s1 Q hT h r1 I1 => ?_
  obtain ⟨a, z, rfl, hv, hQ⟩ := h
  obtain ⟨t, rfl⟩ := _root_.id r1
  obtain ⟨ps, hP, _⟩ := hT
  refine ⟨_, _, _, itOk_str, elt_in I1 ⟨ps, hP⟩ hN hv hk hfr S.loc hy S.kind hd hd2 hcd hmk, fun H2 h2 => ?_⟩
  rw [all_signs]
  exact hQ H2 h2
/-- all(lo <= x <= hi and x != no for x in e), e a list of ints -/
def tAllR (K : PySem.W.Frag) (P : Addr) (l h n : Int) (te : TE) : TE := fun σ H Q => te σ H fun v H1 => TabG H1 P ∧ ∃ (q : Addr) (ns : List Int), v = .ref q ∧ SqL K H1 q (ns.map V.int) ∧ ∀ H2, Tabbed P H1 H2 → Q (.bl (ns.all fun c => decide (l ≤ c ∧ c ≤ h ∧ c ≠ n))) H2
theorem pe_allR {c P : Addr} {iter : Expr} {x lo hi no : Str} {px p pos gpos p1 p2 p3 p4 p5 p6 p7 p8 : Pos} {scope : Scope} {te : TE} {k : Nat} {l h n : Int}
    (hr : Room k X.A) (hg : Gl X "all") (hm : X.mg "all" = none) (hb : bootBuiltins "all" = some (.builtin "all")) (TB : TabB X.base X.mg c P) (hcode : X.env.code = .ref c) (S : GenSc X.env.scope scope x) (hi' : PE X iter te)
    (g1 : ∃ u, X.mg lo = some u ∧ RelV (.int l) u) (g2 : ∃ u, X.mg hi = some u ∧ RelV (.int h) u) (g3 : ∃ u, X.mg no = some u ∧ RelV (.int n) u)
    (k1 : scope.names.lookup lo = some .globalImplicit) (k2 : scope.names.lookup hi = some .globalImplicit) (k3 : scope.names.lookup no = some .globalImplicit)
    (hs : ∀ v, genFold iter X.env v = pure v)
    (he : starEach [.GeneratorExp (.BoolOp .And [.Compare (.Name lo p1) [.LtE, .LtE] [.Name x p2, .Name hi p3] p4, .Compare (.Name x p5) [.NotEq] [.Name no p6] p7] p8) [⟨.Name x px, iter, [], 0⟩] scope gpos] X.env = (false, eval (.GeneratorExp (.BoolOp .And [.Compare (.Name lo p1) [.LtE, .LtE] [.Name x p2, .Name hi p3] p4, .Compare (.Name x p5) [.NotEq] [.Name no p6] p7] p8) [⟨.Name x px, iter, [], 0⟩] scope gpos) X.env) :: starEach [] X.env := by rfl)
    (d0 : (x == ("__debug__" : Str)) = false := by decide) (d1 : (lo == ("__debug__" : Str)) = false := by decide) (d2 : (hi == ("__debug__" : Str)) = false := by decide) (d3 : (no == ("__debug__" : Str)) = false := by decide) :
    PE X (.Call (.Name "all" p) [.GeneratorExp (.BoolOp .And [.Compare (.Name lo p1) [.LtE, .LtE] [.Name x p2, .Name hi p3] p4, .Compare (.Name x p5) [.NotEq] [.Name no p6] p7] p8) [⟨.Name x px, iter, [], 0⟩] scope gpos] [] pos) (tAllR X.K P l h n te) := by
  obtain ⟨u1, g1, t1, rfl⟩ := g1
  obtain ⟨u2, g2, t2, rfl⟩ := g2
  obtain ⟨u3, g3, t3, rfl⟩ := g3
  refine all_go (Wf := fun v H1 σ Q => ∃ (q : Addr) (ns : List Int), v = .ref q ∧ SqL X.K H1 q (ns.map V.int) ∧ ∀ H2, Tabbed P H1 H2 → Q (.bl (ns.all fun c => decide (l ≤ c ∧ c ≤ h ∧ c ≠ n))) H2) hr hg hm hb TB hcode S hi' hs he fun pins σ v xv H1 s1 Q hT hq r1 I1 => ?_
  obtain ⟨q, ns, rfl, hq, hQ⟩ := hq
  obtain rfl : xv = Value.ref q := r1
  obtain ⟨its, rv, pl, hsz⟩ := I1.list hq
  obtain ⟨ps, hP, _⟩ := hT
  have hqP : q ≠ P := fun e => by
    have q' : s1.heap.get? P = some { cls := .none, data := .fields ps } := I1.hok P _ hP
    obtain ⟨o, nn, e1, _, _, e2⟩ := pl
    rw [e, q'] at e1
    cases e1
    cases e2
  refine ⟨_, _, _, itOk_list pl.isList hqP, elt_rng I1 ⟨ps, hP⟩ g1 g2 g3 (by simpa using rv) S.loc k1 k2 k3 S.kind d0 d1 d2 d3, fun H2 h2 => ?_⟩
  have e := rv.length
  rw [List.length_map] at e
  rw [List.size_toArray, ← e, all_trI]
  exact hQ H2 h2
end
end WP

namespace WP
open PySem PySem.Spec PyProof.Rows L2 GxR
/-- all but the tables stay, tables stay tables -/
def NT (u : HO) : Prop := ∀ ps, u ≠ .tbl ps
structure Sm (H H' : Hp) : Prop where
  k : ∀ b u, H b = some u → NT u → H' b = some u
  t : ∀ P, TabG H P → TabG H' P
theorem Sm.refl (H : Hp) : Sm H H := ⟨fun _ _ e _ => e, fun _ h => h⟩
theorem Sm.trans {H H' H2 : Hp} (a : Sm H H') (b : Sm H' H2) : Sm H H2 := ⟨fun x u e n => b.k x u (a.k x u e n) n, fun P h => b.t P (a.t P h)⟩
theorem Sm.of {H H' : Hp} (e : Same H H') : Sm H H' := ⟨fun b u h _ => e b u h, fun P ⟨ps, h, t⟩ => ⟨ps, e P _ h, t⟩⟩
theorem Sm.tab {H H' : Hp} {P : Addr} (g : TabG H P) (h : Tabbed P H H') : Sm H H' := by
  obtain ⟨ps, hP, ht⟩ := g
  refine ⟨fun b u e n => ?_, fun Q hq => ?_⟩
  · by_cases hb : b = P
    · rw [hb, hP] at e; exact absurd (Option.some.inj e).symm (n ps)
    · rw [h.2 b hb]; exact e
  · by_cases hb : Q = P
    · rw [hb]; exact h.1
    · obtain ⟨qs, h1, h2⟩ := hq
      exact ⟨qs, by rw [h.2 Q hb]; exact h1, h2⟩
theorem nt_tup {xs : List V} : NT (.tup xs) := fun _ z => by cases z
theorem nt_lst {xs : List V} : NT (.lst xs) := fun _ z => by cases z
theorem nt_frz {o : Obj} {x : HO} : NT (.frz o x) := fun _ z => by cases z
theorem Sm.tup {K : PySem.W.Frag} {H H' : Hp} {a : Addr} {xs : List V} (e : Sm H H') (h : SqT K H a xs) : SqT K H' a xs := by
  rcases h with (h | ⟨o, h⟩) | h
  · exact .inl (.inl (e.k _ _ h nt_tup))
  · exact .inl (.inr ⟨o, e.k _ _ h nt_frz⟩)
  · exact .inr h
theorem Sm.lst {K : PySem.W.Frag} {H H' : Hp} {a : Addr} {xs : List V} (e : Sm H H') (h : SqL K H a xs) : SqL K H' a xs := by
  rcases h with (h | ⟨o, h⟩) | h
  · exact .inl (.inl (e.k _ _ h nt_lst))
  · exact .inl (.inr ⟨o, e.k _ _ h nt_frz⟩)
  · exact .inr h
/-- what comes back, tables grown -/
def MetV (v : V) (H : Hp) (Q : VK) : Prop := ∀ H', Sm H H' → Q v H'
def MetT (xs : List V) (H : Hp) (Q : VK) : Prop := ∀ p H', Sm H H' → H' p = some (.tup xs) → Q (.ref p) H'
theorem MetT.new {xs : List V} {H H' : Hp} {Q : VK} (k : MetT xs H Q) (e : Sm H H') : ∀ p, H' p = none → Q (.ref p) (upd H' p (.tup xs)) := fun p hp =>
  k p _ (e.trans (.of (same_new hp))) upd_same
/-- the def x's code object and its table -/
def cod (K : PySem.W.Frag) (x : Str) : Addr := match PySem.W.tabIn K x with
  | some (c, _) => c
  | none => 0
def tbl (K : PySem.W.Frag) (x : Str) : Addr := match PySem.W.tabIn K x with
  | some (_, P) => P
  | none => 0
theorem cod_of {K : PySem.W.Frag} {x : Str} {c P : Addr} (h : PySem.W.tabIn K x = some (c, P)) : cod K x = c := by unfold cod; rw [h]
theorem tbl_of {K : PySem.W.Frag} {x : Str} {c P : Addr} (h : PySem.W.tabIn K x = some (c, P)) : tbl K x = P := by unfold tbl; rw [h]
/-- a def whose code object is c -/
structure FunC (K : PySem.W.Frag) (x qual : Str) (st : Stmt) (f : Addr) (fd : FuncData) (c : Addr) : Prop where
  ex : ∃ (oc : Value) (od : Option Addr) (kV doc pm : Value) (an : Option Addr) (ct : Value) (osl : Array (Option Value)),
    fd = PySem.W.fnOf x qual (defArgs st) (defBody st) (defScope st) .none kV doc pm an (.ref c) ct ∧ K.lookup f = some ⟨oc, od, .func fd, osl⟩ ∧ PySem.W.codeIn K (.ref c) qual = true
section
variable {P : Program} {w : World} {K : PySem.W.Frag} {mg : Str → Option Value} {base : Heap}
theorem FunC.ok {x qual : Str} {st : Stmt} {f : Addr} {fd : FuncData} {c : Addr} {N ps : List Str} {k : Nat} {sp : Sp} (F : FunC K x qual st f fd c) (S : FnScope N ps (defScope st)) (len : ∀ vs H Q E, sp vs H Q E → vs.length = ps.length)
    (hbody : ∀ (A : Around) (outer : List Env) (s : Shared) (H : Hp) (vs : List V) (Q : VK) (E : XK), Room k (A.deeper (envOfC qual (defScope st) s.heap.objs.size f (.ref c))) → sp vs H Q E →
      ∃ t, PSs (cxOf CX0 P w K mg base N qual (defScope st) f (.ref c) A outer s H E).nox (defBody st) t ∧ t { nx := fun _ H' => Q .non H', rt := Q } (start N vs) H) : FnOk P w K mg base CX0 (k + 1) f fd ps sp := by
  obtain ⟨oc, od, kV, doc, pm, an, ct, osl, rfl, lk, hcd⟩ := F.ex
  refine fn_of lk hcd S len fun A outer s H vs Q E hr hsp => ?_
  obtain ⟨t, h, q⟩ := hbody A outer s H vs Q E hr hsp
  exact ⟨t, h.nox, q⟩
theorem funC_mk {x qual : Str} {st : Stmt} {f : Addr} {c P' : Addr} {y : Str} {oc : Value} {od an : Option Addr} {osl : Array (Option Value)} {kV doc pm ct : Value} (l : K.lookup f = some ⟨oc, od, .func (PySem.W.fnOf x qual (defArgs st) (defBody st) (defScope st) .none kV doc pm an (.ref c) ct), osl⟩)
    (hc : PySem.W.codeIn K (.ref c) qual = true) (ht : PySem.W.tabIn K y = some (c, P')) : FunC K x qual st f (PySem.W.fnOf x qual (defArgs st) (defBody st) (defScope st) .none kV doc pm an (.ref c) ct) (cod K y) := by
  rw [cod_of ht]
  exact ⟨oc, od, kV, doc, pm, an, ct, osl, rfl, l, hc⟩
end
theorem FunC.toF {K : PySem.W.Frag} {x qual : Str} {st : Stmt} {f : Addr} {fd : FuncData} {c : Addr} (F : FunC K x qual st f fd c) (k : PySem.W.keepIn K (.ref f) = true) : Fun K x qual st f fd := by
  obtain ⟨oc, od, kV, doc, pm, an, ct, osl, e, lk, hcd⟩ := F.ex
  exact ⟨⟨oc, od, kV, doc, pm, an, _, ct, osl, e, lk, hcd⟩, k⟩
theorem tabB_of {base : Heap} {mg : Str → Option Value} {K : PySem.W.Frag} {x : Str} {c P : Addr} (h : LamX.TabB base mg c P) (ht : PySem.W.tabIn K x = some (c, P)) : GxR.TabB base mg (cod K x) (tbl K x) := by
  rw [cod_of ht, tbl_of ht]
  exact ⟨h.code, h.bm, h.gP⟩
/-- the end of a row whose defs hold generator expressions -/
theorem walk_ofG {l : PySem.W.OpenLaw} {n k : Nat} {q : Program} {loose : List Str} {XP : (Str → Option Value) → Heap → Prop} {YP : World → Heap → Prop} {d : DefRec} {K : Params → PySem.W.Frag} {CX : World → CXT} {x : Str}
    (hn : l.most = some n) (hn2 : n ≤ sizeLine) (hdf : d.params.defaults = []) (hr : Room k callerA) (hY : ∀ (w : World) (h : Heap), YP w h → (K w.params).In h)
    (F : ∀ (w : World) (mg : Str → Option Value) (fa : Addr) (h : Heap), YP w h → (K w.params).In h → h.Ns mainGlobals mg → mg d.name = some (.ref fa) →
      (∀ (x : Str) (c P : Addr), ((recsOf q).any fun e => e.name == x) = true → PySem.W.tabIn (K w.params) x = some (c, P) → PySem.W.CodeHd h c P ∧ h.get? P = some { cls := .none, data := .fields #[] }) → LamX.LawAtS l w (K w.params) (CX w) k n x mg fa h)
    (hCX : ∀ (w : World) (H : Hp) (s : Shared) (e : Value) (s' : Shared), CX w [] H s (fun _ _ _ => False) e s' → False) :
    PySem.W.WalkO q loose XP YP l.row.toRowW d [] (fun f vs => PySem.call f vs) := by
  refine Att.attach_callB hn hdf fun w s₀ s₁ mg mb fa o pm cd doc a vs ns G Y ho hd hcd hmg hobj hints hlen hbits hg => ?_
  have KX := hY w _ Y
  obtain ⟨fd, cs, sp, hT, nT, C, hb, hsp, hF⟩ := F w mg fa _ Y KX G.T.g hmg fun x c P hrec ht => by
    obtain ⟨dL, hf⟩ : ∃ dL, (recsOf q).find? (fun e => e.name == x) = some dL := by
      cases e : (recsOf q).find? (fun e => e.name == x) with
      | some dL => exact ⟨dL, rfl⟩
      | none =>
        rw [List.find?_eq_none] at e
        obtain ⟨z, hz, h2⟩ := List.any_eq_true.mp hrec
        exact absurd h2 (e z hz)
    exact PySem.W.tab_of G.T KX hf ht
  exact LamX.law_callTs KX G.T.g G.T.b G.T.builtins G.T.nolimit hg hT nT C G.T.bmain hobj hints (Nat.le_trans hlen hn2) hr hF hb (fun H hH hS => hsp H a ns hlen hbits hH hS) fun H e s' => hCX w H s₁ e s'
end WP

namespace WT
open PySem PySem.Spec PyProof.Rows L2 CwR
/-! ### with a token out: tests, ifs, loops, defs -/
def PTT (X : Cx) (e : Expr) (t : TT) : Prop :=
  ∀ (pins : List (Addr × Obj)) (s : Shared) (σ : L2.St) (H : Hp) (Q : Bool → Hp → Prop), 1 ≤ s.toks → Inv X pins σ H s → t σ H Q → wpAny (model X.prog X.w) X.A (isTrue e X.env (eval e X.env)) (TP X pins σ Q) X.xe s
def PWT (X : Cx) (e : Expr) (t : TT) : Prop :=
  ∀ (whole : Sem Value) (pins : List (Addr × Obj)) (s : Shared) (σ : L2.St) (H : Hp) (Q : Bool → Hp → Prop), 1 ≤ s.toks → Inv X pins σ H s → t σ H Q → wpAny (model X.prog X.w) X.A (isTrue e X.env whole) (TP X pins σ Q) X.xe s
section
variable {X : Cx} {st : Stmt} {rest : List Stmt} {t u : TS} {a b c e f : Expr} {te tf ta tb : TE} {tA tB tc : TT} {pos p : Pos}
theorem PTT.of (h : PT X e tA) : PTT X e tA := fun pins s σ H Q _ I q => h.run pins s σ H Q I q
theorem PWT.of (h : PW X e tA) : PWT X e tA := fun wh pins s σ H Q _ I q => h.run wh pins s σ H Q I q
theorem PWT.pt (h : PWT X e tA) : PTT X e tA := h _
theorem ptt_cmp {op : CmpOp} {r : R2} (ho : OpR X (compareOp op) r) (ha : PET X a ta) (hb : PET X b tb) (hm : behindInMarks op b = false) : PTT X (.Compare a [op] [b] pos) (tTest (tOp r ta tb)) := by
  intro pins s σ H Q h0 I h
  refine wpAny_isTrue_Compare1 (wpAny_mono (PySem.wpAny_toks (ha pins s σ H _ h0 I h)) (fun v s1 q => ?_) fun _ _ z => z.2) hm
  obtain ⟨hk, x, H1, I1, r1, q1⟩ := q
  refine thn (hb pins s1 σ H1 _ (Nat.le_trans h0 hk) I1 q1) fun u s2 ⟨y, H2, I2, r2, q2⟩ => thn (ho pins s2 σ H2 x y v u _ I2 r1 r2 q2) fun c s3 ⟨z, H3, I3, r3, k, e, q3⟩ => ?_
  subst e
  cases r3
  exact wpAny_truthy_bool ⟨H3, I3, q3⟩
theorem pwt_and {rest : List Expr} {tB' : TT} (ha : PTT X a tA) (hb : PWT X (.BoolOp .And (b :: rest) pos) tB') : PWT X (.BoolOp .And (a :: b :: rest) pos) (tAnd tA tB') := by
  intro wh pins s σ H Q h0 I h
  refine isTrue_and (wpAny_mono (PySem.wpAny_toks (ha pins s σ H _ h0 I h)) (fun c s1 q => ?_) fun _ _ z => z.2)
  obtain ⟨hk, H1, I1, q1⟩ := q
  cases c with
  | true => exact hb wh pins s1 σ H1 Q (Nat.le_trans h0 hk) I1 q1
  | false => exact ⟨H1, I1, q1⟩
theorem pat_one (ha : PET X e te) (hs : starEach [e] X.env = (false, eval e X.env) :: starEach [] X.env := by rfl) : PAT X [e] (tCons te tNil) := pat_cons ha pat_nil hs
theorem pet_callB {x : Str} {id : String} {r : List V → Hp → VK → Prop} {es : List Expr} {t : TA} (hc : CallR X (.builtin id) r) (hg : Gl X x) (hm : X.mg x = none) (hv : bootBuiltins x = some (.builtin id)) (ha : PAT X (e :: es) t) (hn : x ≠ "__name__" := by decide) (hdb : (x == ("__debug__" : Str)) = false := by decide)
    (he : starEach (e :: es) X.env = (false, eval e X.env) :: starEach es X.env := by rfl) (hpl : (backTo pos (starEach es X.env)).any (·.1) = false := by rfl) : PET X (.Call (.Name x p) (e :: es) [] pos) (tCB r t) := by
  intro pins s σ H Q h0 I h
  refine wpAny_Call_Name_kw (ld_blt I hg hm hv ?_ hn hdb)
  exact PyProof.Rows.callWith_builtin1 (thn (ha pos pins s σ H _ h0 I h) fun us s1 ⟨vs, H1, I1, r1, q1⟩ => hc pins s1 σ H1 vs us Q I1 r1 q1) he hpl
theorem pst_ifT {a b : List Stmt} (hc : PTT X c tc) (ha : PSsT X a t) (hb : PSsT X b u) : PST X (.If c a b pos) (tIfS tc t u) := by
  intro pins s σ H D h0 I h
  refine wpAny_If (wpAny_mono (PySem.wpAny_toks (hc pins s σ H _ h0 I h)) (fun d s1 q => ?_) fun _ _ z => z.2)
  obtain ⟨hk, H1, I1, q1⟩ := q
  cases d with
  | true => exact ha pins s1 σ H1 D (Nat.le_trans h0 hk) I1 q1
  | false => exact hb pins s1 σ H1 D (Nat.le_trans h0 hk) I1 q1
theorem psst_cut (h1 : PST X st t) (h2 : PSsT X rest u) : PSsT X (st :: rest) (Evl.tCut t u) := by
  intro pins s σ H D h0 I h
  obtain ⟨Mid, hm, hu⟩ := h
  refine wpAny_execs_cons (wpAny_mono (PySem.wpAny_toks (h1 pins s σ H { D with nx := Mid } h0 I hm)) (fun f s1 q => ?_) fun _ _ x => x.2)
  obtain ⟨hk, q⟩ := q
  cases f with
  | next =>
    obtain ⟨σ', H', I', q⟩ := q
    exact h2 pins s1 σ' H' D (Nat.le_trans h0 hk) I' (hu σ' H' q)
  | ret v => exact q
  | brk => exact q
  | cont => exact q
/-- for, its body with a token out -/
theorem pst_forT {tg iter : Expr} {body : List Stmt} {wi : TI} {g : TG} {tb : TS} (hp : PassesOwn (model X.prog X.w) X.A X.env X.xe) (hc : X.calm = true) (hi : PI X tg iter wi) (hg : PG X tg g) (hb : PSsT X body tb)
    (hs : ∀ x, foldedSetIterable iter X.env x = pure x := by intro _; rfl) : PST X (.For tg iter body [] pos) (tFor wi g tb) := by
  intro pins s σ H D h0 I h
  refine wpAny_For (wpAny_mono (PySem.wpAny_toks (hi.run pins s σ H _ I h)) (fun v s1 h1 => ?_) fun _ _ z => z.2) hs
  obtain ⟨hk1, h1⟩ := h1
  refine wpAny_mono (PySem.wpAny_toks h1) (fun itv s2 h2 => ?_) fun _ _ z => z.2
  obtain ⟨hk2, h2⟩ := h2
  obtain ⟨it, fp, tn, J, H2, e, I2, T, st2, f2, W, ⟨m0, w0⟩, turn⟩ := h2
  subst e
  have stat : ∀ {H' : Hp}, (∀ b ∈ fp, H' b = none) → ∀ b ∈ fp, FpOk X pins H' b := fun hn b hb => ⟨hn b hb, (f2 b hb).2⟩
  refine codeAny_forLoop_any (fun n s' => ∃ i σ' H', 1 ≤ s'.toks ∧ Inv X pins σ' H' s' ∧ tn i s'.heap ∧ (∀ b ∈ fp, H' b = none) ∧ W i n σ' H') ?_ m0 ⟨0, σ, H2, Nat.le_trans h0 (Nat.le_trans hk1 hk2), I2, st2, fun b hb => (f2 b hb).1, w0⟩
  rintro n s3 ⟨i, σ3, H3, k3, I3, st3, fr3, w3⟩
  rcases turn i n σ3 H3 w3 with ⟨stop, qn⟩ | ⟨go, N, hN, step⟩
  · refine wpAny_passesOwn hp (thn (T.done X rfl rfl rfl hc i pins s3 σ3 H3 X.xe I3 (stat fr3) st3 stop) fun r s4 ⟨hr, I4⟩ => ?_)
    subst hr
    exact wpAny_execs_nil ⟨σ3, H3, I4, qn⟩
  · refine wpAny_passesOwn hp (wpAny_mono (PySem.wpAny_toks (T.item X rfl rfl rfl hc i pins s3 σ3 H3 X.xe I3 (stat fr3) st3 go)) (fun r s4 q4 => ?_) fun _ _ z => z.2)
    obtain ⟨k4, u, hr, h4⟩ := q4
    subst hr
    refine wpAny_passesOwn hp (wpAny_mono (PySem.wpAny_toks h4) (fun _ s5 q5 => ?_) fun _ _ z => z.2)
    obtain ⟨k5, x, H5, I5, r5, y5, st5, fr5⟩ := q5
    have I5' := I5.pinned (stat fr5) (T.obj _ _ st5)
    refine wpAny_passesOwn hp (wpAny_mono (PySem.wpAny_toks (hg.run _ s5 σ3 H5 x u _ I5' r5 (step x H5 y5))) (fun _ s6 q6 => ?_) fun _ _ z => z.2)
    obtain ⟨k6, σ6, H6, I6, q6⟩ := q6
    have k06 := Nat.le_trans k3 (Nat.le_trans k4 (Nat.le_trans k5 k6))
    refine wpAny_passesOwn hp (wpAny_mono (PySem.wpAny_toks (hb _ s6 σ6 H6 _ k06 I6 q6)) (fun f s7 q7 => ?_) fun _ _ z => z.2)
    obtain ⟨k7, q7⟩ := q7
    have again : ∀ {σ7 : L2.St} {H7 : Hp}, Inv X (pins ++ pinsAt fp s5.heap) σ7 H7 s7 → N σ7 H7 → ∃ m, m < n ∧ ∃ i σ' H', 1 ≤ s7.toks ∧ Inv X pins σ' H' s7 ∧ tn i s7.heap ∧ (∀ b ∈ fp, H' b = none) ∧ W i m σ' H' := fun {σ7 H7} I7 n7 => by
      obtain ⟨m', hm, w7⟩ := hN σ7 H7 n7
      refine ⟨m', hm, i + 1, σ7, H7, Nat.le_trans k06 k7, I7.unpinned, T.keep _ _ _ st5 fun b hb o e => (I7.pin (b, o) (List.mem_append_right _ (List.mem_append_right _ (mem_pinsAt hb e)))).1, fun b hb => ?_, w7⟩
      obtain ⟨o, e, d⟩ := T.obj _ _ st5 b hb
      exact (I7.pin (b, o) (List.mem_append_right _ (List.mem_append_right _ (mem_pinsAt hb e)))).2.1
    cases f with
    | next => obtain ⟨σ7, H7, I7, n7⟩ := q7; exact again I7 n7
    | cont => obtain ⟨σ7, H7, I7, n7⟩ := q7; exact again I7 n7
    | brk => obtain ⟨σ7, H7, I7, q7⟩ := q7; exact ⟨σ7, H7, I7.unpinned, q7⟩
    | ret v => obtain ⟨x7, σ7, H7, I7, r7, q7⟩ := q7; exact ⟨x7, σ7, H7, I7.unpinned, r7, q7⟩
end
section
variable {P : Program} {w : World} {K : PySem.W.Frag} {mg : Str → Option Value} {base : Heap}
/-- a def with a parameter: at its entry a token is out -/
theorem okT {x qual : Str} {st : Stmt} {f : Addr} {fd : FuncData} {N ps : List Str} {k : Nat} {sp : Sp} (F : Fun K x qual st f fd) (S : FnScope N ps (defScope st)) (hnc : ∀ y ∈ (defScope st).names, y.2 ≠ .cell) (hps : 1 ≤ ps.length) (len : ∀ vs H Q E, sp vs H Q E → vs.length = ps.length)
    (hbody : ∀ (cdv : Value) (A : Around) (outer : List Env) (s : Shared) (H : Hp) (vs : List V) (Q : VK) (E : XK), Room k (A.deeper (envOfC qual (defScope st) s.heap.objs.size f cdv)) → sp vs H Q E →
      ∃ t, PSsT (cxOf CX0 P w K mg base N qual (defScope st) f cdv A outer s H E).nox (defBody st) t ∧ t { nx := fun _ H' => Q .non H', rt := Q } (start N vs) H) : FnOk P w K mg base CX0 (k + 1) f fd ps sp := by
  obtain ⟨oc, od, kV, doc, pm, an, cdv, ct, osl, rfl, lk, hcd⟩ := F.ex
  refine fn_ofT lk hcd S hnc hps len fun A outer s H vs Q E hr hsp => ?_
  obtain ⟨t, h, q⟩ := hbody cdv A outer s H vs Q E hr hsp
  exact ⟨t, fun pins s σ H D h0 I hw => wpAny_mono (h pins s σ H D h0 (I.wish _) hw) (fun _ _ q => q.unwish) fun _ _ z => False.elim z, q⟩
end
/-! ### the same as structures (so that they are not unfolded) -/
structure ET (X : Cx) (e : Expr) (t : TE) : Prop where
  run : PET X e t
structure TT1 (X : Cx) (e : Expr) (t : TT) : Prop where
  run : PTT X e t
structure TW (X : Cx) (e : Expr) (t : TT) : Prop where
  run : PWT X e t
structure ST (X : Cx) (st : Stmt) (t : TS) : Prop where
  run : PST X st t
structure SsT (X : Cx) (st : List Stmt) (t : TS) : Prop where
  run : PSsT X st t
section
variable {X : Cx} {st : Stmt} {rest : List Stmt} {t u : TS} {a b c e f : Expr} {te tf ta tb : TE} {tA tB tc : TT} {pos p apos c0 c1 : Pos} {y z : Str} {j k : Nat} {o : Expr} {to : TE}
theorem ET.of (h : PE X e te) : ET X e te := ⟨PET.of h⟩
theorem TT1.of (h : PT X e tA) : TT1 X e tA := ⟨PTT.of h⟩
theorem TW.of (h : PW X e tA) : TW X e tA := ⟨PWT.of h⟩
theorem TW.pt (h : TW X e tA) : TT1 X e tA := ⟨h.run.pt⟩
theorem ST.of (h : PS X st t) : ST X st t := ⟨PST.of h⟩
theorem SsT.of (h : PSs X rest t) : SsT X rest t := ⟨PSsT.of h⟩
theorem ss_cons (h1 : ST X st t) (h2 : SsT X rest u) : SsT X (st :: rest) (tSeq t u) := ⟨psst_cons h1.run h2.run⟩
theorem ss_cut (h1 : ST X st t) (h2 : SsT X rest u) : SsT X (st :: rest) (Evl.tCut t u) := ⟨psst_cut h1.run h2.run⟩
theorem ss_one (h : ST X st t) : SsT X [st] t := ⟨psst_one h.run⟩
theorem s_if {a b : List Stmt} (hc : TT1 X c tc) (ha : SsT X a t) (hb : SsT X b u) : ST X (.If c a b pos) (tIfS tc t u) := ⟨pst_ifT hc.run ha.run hb.run⟩
theorem s_for {tg iter : Expr} {body : List Stmt} {wi : TI} {g : TG} {tb : TS} (hp : PassesOwn (model X.prog X.w) X.A X.env X.xe) (hc : X.calm = true) (hi : PI X tg iter wi) (hg : PG X tg g) (hb : SsT X body tb)
    (hs : ∀ x, foldedSetIterable iter X.env x = pure x := by intro _; rfl) : ST X (.For tg iter body [] pos) (tFor wi g tb) := ⟨pst_forT hp hc hi hg hb.run hs⟩
theorem s_ret (he : ET X e te) : ST X (.Return (some e) pos) (tRet te) := ⟨pst_ret he.run⟩
theorem t_cmp {op : CmpOp} {r : R2} (ho : OpR X (compareOp op) r) (ha : ET X a ta) (hb : ET X b tb) (hm : behindInMarks op b = false) : TT1 X (.Compare a [op] [b] pos) (tTest (tOp r ta tb)) := ⟨ptt_cmp ho ha.run hb.run hm⟩
theorem w_and {rest : List Expr} {tB' : TT} (ha : TT1 X a tA) (hb : TW X (.BoolOp .And (b :: rest) pos) tB') : TW X (.BoolOp .And (a :: b :: rest) pos) (tAnd tA tB') := ⟨pwt_and ha.run hb.run⟩
theorem e_len {x : Str} {id : String} {r : List V → Hp → VK → Prop} (hc : CallR X (.builtin id) r) (hg : Gl X x) (hm : X.mg x = none) (hv : bootBuiltins x = some (.builtin id)) (ha : ET X e te) (hns : WP.noStar e = true := by rfl) (hn : x ≠ "__name__" := by decide) (hdb : (x == ("__debug__" : Str)) = false := by decide)
    (hpl : (backTo pos (starEach ([] : List Expr) X.env)).any (·.1) = false := by rfl) : ET X (.Call (.Name x p) [e] [] pos) (tCB r (tCons te tNil)) := ⟨pet_callB hc hg hm hv (pat_one ha.run (WP.starEach_no hns)) hn hdb (WP.starEach_no hns) hpl⟩
theorem e_op {op : Operator} {r : R2} (ho : OpR X (binaryOp op) r) (ha : ET X e te) (hb : ET X f tf) : ET X (.BinOp e op f pos) (tOp r te tf) := ⟨pet_op ho ha.run hb.run⟩
theorem e_replC (ho : PE X o to) (hyz : (y == z) = false := by decide)
    (hst : starEach [.Constant (.str y) j c0, .Constant (.str z) k c1] X.env = [(false, eval (.Constant (.str y) j c0) X.env), (false, eval (.Constant (.str z) k c1) X.env)] := by rfl)
    (hbase : attributeBase o "replace" X.env (eval o X.env) = eval o X.env := by rfl) (hline : (apos.endLine == pos.line) = true := by rfl) :
    ET X (.Call (.Attribute o "replace" apos) [.Constant (.str y) j c0, .Constant (.str z) k c1] [] pos) (tReplC to y z) := ⟨pet_replC ho hyz hst hbase hline⟩
theorem e_replT (ho : ET X o to) (hyz : (y == z) = false := by decide)
    (hst : starEach [.Constant (.str y) j c0, .Constant (.str z) k c1] X.env = [(false, eval (.Constant (.str y) j c0) X.env), (false, eval (.Constant (.str z) k c1) X.env)] := by rfl)
    (hbase : attributeBase o "replace" X.env (eval o X.env) = eval o X.env := by rfl) (hline : (apos.endLine == pos.line) = true := by rfl) :
    ET X (.Call (.Attribute o "replace" apos) [.Constant (.str y) j c0, .Constant (.str z) k c1] [] pos) (tReplC to y z) := ⟨pet_replT ho.run hyz hst hbase hline⟩
end
section
variable {P : Program} {w : World} {K : PySem.W.Frag} {mg : Str → Option Value} {base : Heap}
theorem okS {x qual : Str} {st : Stmt} {f : Addr} {fd : FuncData} {N ps : List Str} {k : Nat} {sp : Sp} (F : Fun K x qual st f fd) (S : FnScope N ps (defScope st)) (hnc : ∀ y ∈ (defScope st).names, y.2 ≠ .cell) (hps : 1 ≤ ps.length) (len : ∀ vs H Q E, sp vs H Q E → vs.length = ps.length)
    (hbody : ∀ (cdv : Value) (A : Around) (outer : List Env) (s : Shared) (H : Hp) (vs : List V) (Q : VK) (E : XK), Room k (A.deeper (envOfC qual (defScope st) s.heap.objs.size f cdv)) → sp vs H Q E →
      ∃ t, SsT (cxOf CX0 P w K mg base N qual (defScope st) f cdv A outer s H E).nox (defBody st) t ∧ t { nx := fun _ H' => Q .non H', rt := Q } (start N vs) H) : FnOk P w K mg base CX0 (k + 1) f fd ps sp :=
  okT F S hnc hps len fun cdv A outer s H vs Q E hr hsp => by
    obtain ⟨t, h, q⟩ := hbody cdv A outer s H vs Q E hr hsp
    exact ⟨t, h.run, q⟩
end
end WT
namespace WT
open PySem PySem.Spec PyProof.Rows L2 CwR
theorem repl {to : TE} {y z : Str} {σ : L2.St} {H : Hp} {Q : VK} (h : to σ H fun v H1 => ∃ x, v = .str x ∧ x.length + (x.length + 1) * z.length ≤ 16777216 ∧ Q (.str (Txt.replace x y z)) H1) : tReplC to y z σ H Q := h
end WT

namespace MD
open WP
/-- the least scale: zeros at the end are dropped -/
def nrm : Int → Nat → Int × Nat
  | u, 0 => (u, 0)
  | u, s + 1 => if u % 10 = 0 then nrm (u / 10) s else (u, s + 1)
theorem nrm_le : ∀ (s : Nat) (u : Int), (nrm u s).2 ≤ s
  | 0, u => Nat.le_refl _
  | s + 1, u => by
    unfold nrm
    split
    · exact Nat.le_succ_of_le (nrm_le s _)
    · exact Nat.le_refl _
theorem nrm_val : ∀ (s : Nat) (u : Int), (nrm u s).1 * 10 ^ (s - (nrm u s).2) = u
  | 0, u => by unfold nrm; simp
  | s + 1, u => by
    unfold nrm
    split
    · rename_i h
      have ih := nrm_val s (u / 10)
      have l := nrm_le s (u / 10)
      have e : s + 1 - (nrm (u / 10) s).2 = (s - (nrm (u / 10) s).2) + 1 := by omega
      rw [e, Int.pow_succ, ← Int.mul_assoc, ih]
      omega
    · simp
/-- a decimal: the scale is the least one -/
def Dec (u : Int) (s : Nat) : Prop := s = 0 ∨ u % 10 ≠ 0
theorem nrm_dec : ∀ (s : Nat) (u : Int), Dec (nrm u s).1 (nrm u s).2
  | 0, u => .inl rfl
  | s + 1, u => by
    unfold nrm
    split
    · exact nrm_dec s _
    · rename_i h; exact .inr h
theorem nrm_self {u : Int} {s : Nat} (h : Dec u s) : nrm u s = (u, s) := by
  cases s with
  | zero => rfl
  | succ s =>
    unfold nrm
    rcases h with h | h
    · cases h
    · rw [if_neg h]
theorem nrm_up : ∀ (m s : Nat) (u : Int), nrm (u * 10 ^ m) (s + m) = nrm u s
  | 0, s, u => by simp
  | m + 1, s, u => by
    have e : u * 10 ^ (m + 1) = u * 10 ^ m * 10 := by rw [Int.pow_succ, Int.mul_assoc]
    rw [← Nat.add_assoc, e]
    show (if (u * 10 ^ m * 10) % 10 = 0 then nrm (u * 10 ^ m * 10 / 10) (s + m) else _) = _
    rw [if_pos (Int.mul_emod_left _ _), Int.mul_ediv_cancel _ (by decide)]
    exact nrm_up m s u
theorem nrm_abs : ∀ (s : Nat) (u : Int), (nrm u s).1.natAbs ≤ u.natAbs
  | 0, u => Nat.le_refl _
  | s + 1, u => by
    unfold nrm
    split
    · have := nrm_abs s (u / 10)
      omega
    · exact Nat.le_refl _
theorem nrm_bt {u : Int} {s a : Nat} (h : Bt u a) : Bt (nrm u s).1 a := h.le (nrm_abs s u)
end MD
namespace MD
theorem nrm_eq (u : Int) (s : Nat) : (nrm u s).1 * 10 ^ s = u * 10 ^ (nrm u s).2 := by
  have h := nrm_val s u
  have l := nrm_le s u
  have e : (10 : Int) ^ s = 10 ^ (s - (nrm u s).2) * 10 ^ (nrm u s).2 := by rw [← Int.pow_add]; congr 1; omega
  rw [e, ← Int.mul_assoc, h]
end MD

namespace MW
open PySem PySem.Spec PyProof.Rows L2
open SX (S)
def FIG : List Nat := [48, 49, 50, 51, 52, 53, 54, 55, 56, 57]
def LET : List Nat := [97, 98, 99, 100, 101, 102, 103, 104, 105, 106, 107, 108, 109, 110, 111, 112, 113, 114, 115, 116, 117, 118, 119, 120, 121, 122]
/-- the printable signs -/
def PRN : List Nat := [32, 33, 34, 35, 36, 38, 39, 40, 41, 42, 43, 44, 45, 46, 47, 48, 49, 50, 51, 52, 53, 54, 55, 56, 57, 58, 59, 60, 61, 62, 63, 64, 65, 66, 67, 68, 69, 70, 71, 72, 73, 74, 75, 76, 77, 78, 79, 80, 81, 82, 83, 84, 85, 86, 87, 88, 89, 90, 91, 92, 93, 94, 95, 96, 97, 98, 99, 100, 101, 102, 103, 104, 105, 106, 107, 108, 109, 110, 111, 112, 113, 114, 115, 116, 117, 118, 119, 120, 121, 122, 123, 124, 125, 126]
def allIn (l cs : List Nat) : Bool := l.all fun c => decide (c ∈ cs)
def figs (l : List Nat) : Bool := !decide (l = []) && allIn l FIG
def prn (l : List Nat) : Bool := l.all fun c => decide (32 ≤ c ∧ c ≤ 126 ∧ c ≠ 37)
theorem allIn_nil (cs : List Nat) : allIn [] cs = true := rfl
theorem figs_all {l : List Nat} (h : figs l = true) : l ≠ [] ∧ l.all (fun c => decide (48 ≤ c) && decide (c ≤ 57)) = true := by
  unfold figs at h
  rw [Bool.and_eq_true, Bool.not_eq_true', decide_eq_false_iff_not] at h
  refine ⟨h.1, List.all_eq_true.mpr fun c hc => ?_⟩
  have := List.all_eq_true.mp h.2 c hc
  have m : c ∈ FIG := of_decide_eq_true this
  have : c = 48 ∨ c = 49 ∨ c = 50 ∨ c = 51 ∨ c = 52 ∨ c = 53 ∨ c = 54 ∨ c = 55 ∨ c = 56 ∨ c = 57 := by simpa [FIG] using m
  rw [Bool.and_eq_true, decide_eq_true_eq, decide_eq_true_eq]
  omega
/-- some value of the law: a text, or something else -/
inductive Wd (K : PySem.W.Frag) (H : Hp) : V → Prop
  | str {l : List Nat} (hl : l.length ≤ 1000) (ok : ∀ c ∈ l, c < 128) : Wd K H (.str (S l))
  | non : Wd K H .non
  | int (i : Int) : Wd K H (.int i)
  | bl (b : Bool) : Wd K H (.bl b)
  | tup {p : Addr} {xs : List V} (h : SqT K H p xs) : Wd K H (.ref p)
  | lst {p : Addr} {xs : List V} (h : SqL K H p xs) : Wd K H (.ref p)
theorem Wd.sm {K : PySem.W.Frag} {H H' : Hp} {v : V} (e : WP.Sm H H') (h : Wd K H v) : Wd K H' v := by
  cases h with
  | str hl ok => exact .str hl ok
  | non => exact .non
  | int i => exact .int i
  | bl b => exact .bl b
  | tup h => exact .tup (e.tup h)
  | lst h => exact .lst (e.lst h)
def isS : V → Bool
  | .str _ => true
  | _ => false
theorem tyL {K : PySem.W.Frag} {H : Hp} {p : Addr} {xs : List V} (h : SqL K H p xs) : TyX K H (.ref p) (.type "list") := by
  rcases h with (h | ⟨o, h⟩) | h
  · exact .base (.lst h)
  · exact .base (.frz h)
  · obtain ⟨o, its, n, h1, h2, h3⟩ := h
    exact .kList h1 h2
/-- isinstance(v, str) -/
theorem Wd.isStr {K : PySem.W.Frag} {H : Hp} {v : V} {Q : VK} (h : Wd K H v) (q : Q (.bl (isS v)) H) : rIsi K [v, .ty "str"] H Q := by
  cases h with
  | str hl ok => exact WP.isY (.base (.str _)) q
  | non => exact WP.isN (.base .non) q
  | int i => exact WP.isN (.base (.int i)) q
  | bl b => exact WP.isN (.base (.bl b)) q
  | tup h => exact WP.isN (WP.tyT h) q
  | lst h => exact WP.isN (tyL h) q
/-- what is asked of a text, False of another value -/
def onS (f : List Nat → Bool) : V → Bool
  | .str z => f z.cps.toList
  | _ => false
theorem onS_S {f : List Nat → Bool} {l : List Nat} : onS f (.str (S l)) = f l := rfl
theorem Wd.cases {K : PySem.W.Frag} {H : Hp} {v : V} (h : Wd K H v) : (∃ l, v = .str (S l) ∧ l.length ≤ 1000 ∧ ∀ c ∈ l, c < 128) ∨ (isS v = false ∧ ∀ f, onS f v = false) := by
  cases h with
  | str hl ok => exact .inl ⟨_, rfl, hl, ok⟩
  | _ => exact .inr ⟨rfl, fun _ => rfl⟩
/-- the reserved words -/
def RES : List (List Nat) := [[112, 114, 111, 103, 114, 97, 109], [100, 97, 116, 97], [102, 105, 108, 101, 115], [112, 114, 111, 99, 101, 100, 117, 114, 101], [112, 105, 99, 116, 117, 114, 101], [111, 99, 99, 117, 114, 115], [118, 97, 108, 117, 101], [105, 110, 112, 117, 116], [111, 117, 116, 112, 117, 116], [114, 101, 99, 111, 114, 100], [109, 111, 118, 101], [116, 111], [115, 101, 116], [114, 111, 117, 110, 100, 101, 100], [101, 108, 115, 101], [101, 110, 100], [100, 105, 118, 105, 100, 101], [98, 121], [103, 105, 118, 105, 110, 103], [114, 101, 109, 97, 105, 110, 100, 101, 114], [105, 102], [116, 104, 101, 110], [112, 101, 114, 102, 111, 114, 109], [116, 104, 114, 117], [116, 105, 109, 101, 115], [117, 110, 116, 105, 108], [118, 97, 114, 121, 105, 110, 103], [102, 114, 111, 109], [114, 101, 97, 100], [97, 116], [98, 97, 100], [119, 114, 105, 116, 101], [115, 104, 111, 119], [115, 111, 114, 116], [100, 101, 115, 99, 101, 110, 100, 105, 110, 103], [99, 108, 101, 97, 114], [115, 116, 111, 112], [110, 111, 116], [97, 110, 100], [111, 114], [100, 105, 103, 105, 116, 115], [116, 101, 120, 116]]
def nameB (l : List Nat) : Bool :=
  decide (1 ≤ l.length ∧ l.length ≤ 20) && (!decide (l ∈ RES) && (decide (l.headD 0 ∈ LET) && (!decide ((l.getLast?).getD 0 = 45) && allIn l (LET ++ FIG ++ [45]))))
theorem ends {l : List Nat} (h : 1 ≤ l.length) : atI l (0 : Int) = some (l.headD 0) ∧ atI l (-1 : Int) = some ((l.getLast?).getD 0) := by
  cases l with
  | nil => exact absurd h (by decide)
  | cons c r =>
    refine ⟨WP.at0, ?_⟩
    have e : ixN (c :: r).length (-1) = some r.length := by
      unfold ixN
      rw [if_neg (by decide)]
      rw [List.length_cons]
      first | (rw [if_pos (by omega)]; congr 1; omega) | (simp; omega)
    unfold atI
    rw [e]
    show (c :: r)[r.length]? = _
    have e2 : (c :: r).getLast? = (c :: r)[(c :: r).length - 1]? := List.getLast?_eq_getElem?
    rw [show (c :: r).length - 1 = r.length from rfl] at e2
    rw [← e2]
    simp [List.getLast?_cons]
theorem cps_S (l : List Nat) : (S l).cps.toList = l := rfl
theorem prn_codes (l : List Nat) : ((l.map fun c => ((c : Nat) : Int)).all fun c => decide ((32 : Int) ≤ c ∧ c ≤ 126 ∧ c ≠ 37)) = prn l := by
  unfold prn
  rw [List.all_map]
  congr 1
  funext c
  show decide _ = decide _
  congr 1
  exact propext ⟨fun (h : (32 : Int) ≤ (c : Int) ∧ (c : Int) ≤ 126 ∧ (c : Int) ≠ 37) => by omega, fun h => show (32 : Int) ≤ (c : Int) ∧ (c : Int) ≤ 126 ∧ (c : Int) ≠ 37 by omega⟩
theorem prn_in (l : List Nat) : allIn l PRN = prn l := by
  unfold allIn prn
  congr 1
  funext c
  congr 1
  refine propext ⟨fun h => ?_, fun ⟨h1, h2, h3⟩ => ?_⟩
  · have : ∀ c ∈ PRN, 32 ≤ c ∧ c ≤ 126 ∧ c ≠ 37 := by decide
    exact this c h
  · have : ∀ c < 127, 32 ≤ c → c ≠ 37 → c ∈ PRN := by decide
    exact this c (by omega) h1 h3
/-- the reserved words as data -/
def resD : List PyData := RES.map fun a => PyData.str (S a)
theorem dpAll_S {K : PySem.W.Frag} {H : Hp} : ∀ ls : List (List Nat), DpAll K H (ls.map fun a => V.str (S a)) (ls.map fun a => PyData.str (S a))
  | [] => .nil
  | _ :: r => .cons (.str _) (dpAll_S r)
theorem dpRes {K : PySem.W.Frag} (H : Hp) : DpAll K H (RES.map fun a => V.str (S a)) resD := dpAll_S RES
theorem resSh : SeqAt.shaped (.list resD) = true := by decide +kernel
theorem resLay : (PyData.list resD).canLay0 = true := by decide +kernel
end MW

namespace MT
open PySem PySem.Spec PyProof.Rows L2 MW
open SX (S)
/-! ### a text cut at the first sign c -/
def cutW (c : Nat) (l : List Nat) : List Nat := l.takeWhile (· != c)
def cutR (c : Nat) (l : List Nat) : Option (List Nat) := match l.dropWhile (· != c) with
  | [] => none
  | _ :: r => some r
theorem dw_head {c : Nat} : ∀ {l : List Nat} {x : Nat} {r : List Nat}, l.dropWhile (· != c) = x :: r → x = c
  | [], _, _, h => by cases h
  | y :: l, x, r, h => by
    by_cases e : y = c
    · subst e
      rw [List.dropWhile_cons_of_neg (by simp)] at h
      cases h; rfl
    · rw [List.dropWhile_cons_of_pos (by simp [e])] at h
      exact dw_head h
theorem cutW_free (c : Nat) (l : List Nat) : c ∉ cutW c l := fun h => by
  have := List.all_eq_true.mp (List.all_takeWhile (l := l) (p := (· != c))) c h
  simp at this
theorem cut_none {c : Nat} {l : List Nat} (h : cutR c l = none) : cutW c l = l ∧ c ∉ l := by
  have e := List.takeWhile_append_dropWhile (p := (· != c)) (l := l)
  have hd : l.dropWhile (· != c) = [] := by
    unfold cutR at h
    split at h
    · rename_i z; exact z
    · cases h
  rw [hd, List.append_nil] at e
  have e : cutW c l = l := e
  exact ⟨e, by have := cutW_free c l; rw [e] at this; exact this⟩
theorem cut_some {c : Nat} {l r : List Nat} (h : cutR c l = some r) : l = cutW c l ++ c :: r := by
  have e := List.takeWhile_append_dropWhile (p := (· != c)) (l := l)
  unfold cutR at h
  split at h
  · cases h
  · rename_i x r' z
    cases h
    rw [z, dw_head z] at e
    exact e.symm
theorem cut_of {c : Nat} : ∀ {p q : List Nat}, c ∉ p → cutW c (p ++ c :: q) = p ∧ cutR c (p ++ c :: q) = some q
  | [], q, _ => by
    unfold cutW cutR
    simp
  | x :: p, q, h => by
    have hx : x ≠ c := fun e => h (by rw [e]; exact List.mem_cons_self ..)
    obtain ⟨h1, h2⟩ := cut_of (q := q) (c := c) (p := p) fun m => h (List.mem_cons_of_mem _ m)
    unfold cutW cutR at *
    rw [List.cons_append, List.takeWhile_cons_of_pos (by simp [hx]), List.dropWhile_cons_of_pos (by simp [hx])]
    exact ⟨by rw [h1], h2⟩
theorem cut_of_none {c : Nat} {p : List Nat} (h : c ∉ p) : cutW c p = p ∧ cutR c p = none := by
  cases e : cutR c p with
  | none => exact ⟨(cut_none e).1, rfl⟩
  | some r =>
    have := cut_some e
    exact absurd (by rw [this]; exact List.mem_append_right _ (List.mem_cons_self ..)) h
/-- partition -/
theorem part_S (c : Nat) (l : List Nat) : Txt.partition (S l) (S [c]) = (S (cutW c l), S (match cutR c l with | none => [] | some _ => [c]), S ((cutR c l).getD [])) := by
  cases h : cutR c l with
  | none =>
    obtain ⟨e, n⟩ := cut_none h
    rw [SX.partition_none (List.cons_ne_nil _ _) (SX.par_head_none n), e]
    rfl
  | some r =>
    have e := cut_some h
    have n := cutW_free c l
    have q : TL.par [c] [] l = some (cutW c l, r) := (congrArg (TL.par [c] []) e).trans (SX.par_head r n)
    rw [SX.partition_some (List.cons_ne_nil _ _) q]
    rfl
/-- split -/
theorem spl_none {c : Nat} {l : List Nat} (h : cutR c l = none) : TL.spl [c] 0 [] l = [l] := by
  have := (cut_none h).2
  have q := TL.spl_last1 (S := []) (acc := []) this
  exact q
theorem spl_some {c : Nat} {l r : List Nat} (h : cutR c l = some r) : TL.spl [c] 0 [] l = cutW c l :: TL.spl [c] 0 [] r := by
  have e := cut_some h
  have n := cutW_free c l
  have q := TL.spl_part1 (S := []) (acc := []) (rest := r) n
  have key : ∀ p, l = p ++ c :: r → TL.spl [c] 0 [] (p ++ c :: r) = p :: TL.spl [c] 0 [] r → TL.spl [c] 0 [] l = p :: TL.spl [c] 0 [] r := fun p e q => by rw [e]; exact q
  exact key _ e q
theorem spl_ne {c : Nat} (l : List Nat) : 1 ≤ (TL.spl [c] 0 [] l).length := by
  cases h : cutR c l with
  | none => rw [spl_none h]; exact Nat.le_refl 1
  | some r => rw [spl_some h]; simp
theorem spl_count {c : Nat} (n : Nat) : ∀ l : List Nat, l.length ≤ n → (TL.spl [c] 0 [] l).length ≤ l.length + 1 := by
  induction n with
  | zero =>
    intro l h
    have : l = [] := List.length_eq_zero_iff.mp (by omega)
    subst this
    rw [TL.spl_nil]
    exact Nat.le_refl _
  | succ n ih =>
    intro l h
    cases e : cutR c l with
    | none => rw [spl_none e]; simp
    | some r =>
      have e2 := congrArg List.length (cut_some e)
      rw [List.length_append, List.length_cons] at e2
      rw [spl_some e, List.length_cons]
      have := ih r (by omega)
      omega
theorem spl_flat {c : Nat} (n : Nat) : ∀ l : List Nat, l.length ≤ n → (TL.spl [c] 0 [] l).flatten.length ≤ l.length := by
  induction n with
  | zero =>
    intro l h
    have : l = [] := List.length_eq_zero_iff.mp (by omega)
    subst this
    rw [TL.spl_nil]
    exact Nat.le_refl _
  | succ n ih =>
    intro l h
    cases e : cutR c l with
    | none => rw [spl_none e]; simp
    | some r =>
      have e2 := congrArg List.length (cut_some e)
      rw [List.length_append, List.length_cons] at e2
      rw [spl_some e, List.flatten_cons, List.length_append]
      have := ih r (by omega)
      omega
/-! ### what a text spells -/
def whole (l : List Nat) : Bool := figs l && (decide (l = [48]) || !decide (l.headD 0 = 48))
def sgn (neg : Bool) (n : Nat) : Int := if neg then -(n : Int) else (n : Int)
def spellB (neg : Bool) (w : List Nat) : Option (List Nat) → Option (Int × Nat)
  | none => if whole w = true ∧ w.length ≤ 18 then some (sgn neg (NumText.digitsVal w), 0) else none
  | some f => if whole w = true ∧ figs f = true ∧ w.length + f.length ≤ 18 then some (MD.nrm (sgn neg (NumText.digitsVal (w ++ f))) f.length) else none
theorem spellB_none {neg : Bool} {w : List Nat} : spellB neg w none = if whole w = true ∧ w.length ≤ 18 then some (sgn neg (NumText.digitsVal w), 0) else none := rfl
theorem spellB_some {neg : Bool} {w f : List Nat} : spellB neg w (some f) = if whole w = true ∧ figs f = true ∧ w.length + f.length ≤ 18 then some (MD.nrm (sgn neg (NumText.digitsVal (w ++ f))) f.length) else none := rfl
def isNeg (l : List Nat) : Bool := decide (l.head? = some 45)
def bodyOf (l : List Nat) : List Nat := if isNeg l = true then l.drop 1 else l
def spell (l : List Nat) : Option (Int × Nat) := spellB (isNeg l) (cutW 46 (bodyOf l)) (cutR 46 (bodyOf l))
theorem spl_filter {c : Nat} (n : Nat) : ∀ l : List Nat, l.length ≤ n → (TL.spl [c] 0 [] l).flatten = l.filter (fun x => !decide (x = c)) := by
  have keep : ∀ w : List Nat, c ∉ w → w.filter (fun x => !decide (x = c)) = w := fun w h => List.filter_eq_self.mpr fun x hx => by
    have : x ≠ c := fun e => h (by rw [← e]; exact hx)
    simp [this]
  induction n with
  | zero =>
    intro l h
    have : l = [] := List.length_eq_zero_iff.mp (by omega)
    subst this
    rw [TL.spl_nil]
    rfl
  | succ n ih =>
    intro l h
    cases e : cutR c l with
    | none =>
      rw [spl_none e, keep l (cut_none e).2]
      simp
    | some r =>
      have e1 := cut_some e
      have e2 := congrArg List.length e1
      rw [List.length_append, List.length_cons] at e2
      rw [spl_some e, List.flatten_cons, ih r (by omega)]
      have k := keep _ (cutW_free c l)
      have e3 := congrArg (List.filter (fun x => !decide (x = c))) e1
      rw [List.filter_append, k] at e3
      rw [e3, List.filter_cons]
      simp
theorem joinL0 : ∀ l : List (List Nat), TL.joinL [] l = l.flatten
  | [] => rfl
  | [p] => by simp [TL.joinL]
  | p :: q :: r => by rw [TL.joinL, joinL0 (q :: r)]; simp
/-- text.replace(c, '') -/
theorem repl_S {c : Nat} (hc : c < 256) (l : List Nat) : Txt.replace (S l) (S [c]) (S []) = S (l.filter (fun x => !decide (x = c))) := by
  have h := StrLaws.replace_one (S l) (S []) c
  have e : (⟨#[c]⟩ : Str) = S [c] := rfl
  rw [e] at h
  rw [h, SX.split_S (List.cons_ne_nil _ _) (by simpa using hc), ← TL.join_eq, SX.join_S, joinL0, spl_filter l.length l (Nat.le_refl _)]
/-! ### figures -/
theorem all_figs {l : List Nat} (h : NumText.AllDigits l) (ne : l ≠ []) : figs l = true := by
  unfold figs
  rw [decide_eq_false ne]
  refine List.all_eq_true.mpr fun c hc => decide_eq_true ?_
  have := h c hc
  have : c = 48 ∨ c = 49 ∨ c = 50 ∨ c = 51 ∨ c = 52 ∨ c = 53 ∨ c = 54 ∨ c = 55 ∨ c = 56 ∨ c = 57 := by omega
  simpa [FIG] using this
theorem numL_hd (n : Nat) : n = 0 ∨ (TL.numL n).headD 0 ≠ 48 := by
  induction n using Nat.strongRecOn with
  | ind n ih =>
    by_cases h : n < 10
    · rw [TL.numL_lt h]
      show n = 0 ∨ 48 + n ≠ 48
      omega
    · rw [TL.numL_step (by omega)]
      rcases ih (n / 10) (by omega) with e | e
      · omega
      · refine .inr ?_
        have ne := TL.numL_ne (n / 10)
        cases hx : TL.numL (n / 10) with
        | nil => exact absurd hx ne
        | cons a r => rw [hx] at e; exact e
theorem digits_zero (k : Nat) (l : List Nat) : NumText.digitsVal (List.replicate k 48 ++ l) = NumText.digitsVal l := by
  induction k with
  | zero => rfl
  | succ k ih => rw [List.replicate_succ, List.cons_append]; exact ih
theorem digits_app : ∀ l, NumText.AllDigits l → ∀ c ∈ l, 48 ≤ c ∧ c ≤ 57 := fun l h c hc => h c hc
end MT
namespace MT
open PySem PySem.Spec PyProof.Rows L2 MW
open SX (S)
/-- the figures of a decimal, and its text (as the program's show makes it) -/
def dF (u : Int) (s : Nat) : List Nat := List.replicate (s + 1 - (TL.numL u.natAbs).length) 48 ++ TL.numL u.natAbs
def dT (u : Int) (s : Nat) : List Nat := (if u < 0 then [45] else []) ++ (if s = 0 then dF u s else (dF u s).take ((dF u s).length - s) ++ [46] ++ (dF u s).drop ((dF u s).length - s))
theorem dF_dig (u : Int) (s : Nat) : NumText.AllDigits (dF u s) := fun c hc => by
  rcases List.mem_append.mp hc with h | h
  · rw [List.eq_of_mem_replicate h]; decide
  · exact TL.numL_digits _ c h
theorem dF_len (u : Int) (s : Nat) : s + 1 ≤ (dF u s).length := by
  have := List.length_pos_iff.mpr (TL.numL_ne u.natAbs)
  unfold dF
  rw [List.length_append, List.length_replicate]
  omega
theorem dF_val (u : Int) (s : Nat) : NumText.digitsVal (dF u s) = u.natAbs := by
  unfold dF
  rw [digits_zero, TL.numL_val]
/-- the part ahead of the point -/
theorem dF_whole (u : Int) (s : Nat) : whole ((dF u s).take ((dF u s).length - s)) = true := by
  have hl := dF_len u s
  have hn := List.length_pos_iff.mpr (TL.numL_ne u.natAbs)
  have ne : (dF u s).take ((dF u s).length - s) ≠ [] := fun e => by
    have := congrArg List.length e
    rw [List.length_take, List.length_nil] at this
    omega
  have dg : NumText.AllDigits ((dF u s).take ((dF u s).length - s)) := fun c hc => dF_dig u s c (List.mem_of_mem_take hc)
  unfold whole
  rw [all_figs dg ne, Bool.true_and, Bool.or_eq_true]
  by_cases h : (TL.numL u.natAbs).length ≤ s
  · left
    have e : (dF u s).length - s = 1 := by
      unfold dF
      rw [List.length_append, List.length_replicate]; omega
    rw [e]
    unfold dF
    obtain ⟨k, hk⟩ : ∃ k, s + 1 - (TL.numL u.natAbs).length = k + 1 := ⟨s - (TL.numL u.natAbs).length, by omega⟩
    rw [hk, List.replicate_succ]
    rfl
  · have e : dF u s = TL.numL u.natAbs := by
      unfold dF
      rw [show s + 1 - (TL.numL u.natAbs).length = 0 by omega]
      rfl
    rw [e]
    rcases numL_hd u.natAbs with z | z
    · left
      rw [z] at h ⊢
      have e0 : TL.numL 0 = [48] := TL.numL_lt (by decide)
      rw [e0] at h ⊢
      have : s = 0 := by have : ¬ (1 ≤ s) := h; omega
      subst this
      rfl
    · right
      obtain ⟨k, hk⟩ : ∃ k, (TL.numL u.natAbs).length - s = k + 1 := ⟨(TL.numL u.natAbs).length - s - 1, by omega⟩
      rw [hk]
      cases hx : TL.numL u.natAbs with
      | nil => exact absurd hx (TL.numL_ne _)
      | cons a r =>
        rw [hx] at z
        have z' : a ≠ 48 := z
        rw [List.take_succ_cons]
        show (!decide (a = 48)) = true
        rw [decide_eq_false z']; rfl
theorem dig_no {l : List Nat} (h : NumText.AllDigits l) {c : Nat} (hc : c < 48) : c ∉ l := fun m => by have := h c m; omega
theorem dT_neg (u : Int) (s : Nat) : isNeg (dT u s) = decide (u < 0) := by
  unfold isNeg dT
  by_cases h : u < 0
  · rw [if_pos h, decide_eq_true h]; rfl
  · rw [if_neg h, decide_eq_false h, List.nil_append]
    refine decide_eq_false fun e => ?_
    have hl := dF_len u s
    have m : (45 : Nat) ∈ dF u s := by
      split at e
      · exact List.mem_of_head? e
      · rename_i h0
        rw [List.append_assoc, List.head?_append] at e
        cases hx : ((dF u s).take ((dF u s).length - s)).head? with
        | none =>
          have : (dF u s).take ((dF u s).length - s) = [] := List.head?_eq_none_iff.mp hx
          have := congrArg List.length this
          rw [List.length_take, List.length_nil] at this
          omega
        | some a =>
          rw [hx] at e
          cases e
          exact List.mem_of_mem_take (List.mem_of_head? hx)
    exact dig_no (dF_dig u s) (by decide) m
theorem dT_body (u : Int) (s : Nat) : bodyOf (dT u s) = if s = 0 then dF u s else (dF u s).take ((dF u s).length - s) ++ 46 :: (dF u s).drop ((dF u s).length - s) := by
  unfold bodyOf
  rw [dT_neg]
  have e : ∀ a b : List Nat, a ++ [46] ++ b = a ++ 46 :: b := fun a b => by rw [List.append_assoc]; rfl
  by_cases h : u < 0
  · rw [if_pos (decide_eq_true h)]
    unfold dT
    rw [if_pos h, e]
    rfl
  · rw [if_neg (by rw [decide_eq_false h]; exact Bool.false_ne_true)]
    unfold dT
    rw [if_neg h, e]
    rfl
/-- the read-back -/
theorem spell_dT {u : Int} {s : Nat} (hd : MD.Dec u s) (hl : (dF u s).length ≤ 18) : spell (dT u s) = some (u, s) := by
  have hs : sgn (decide (u < 0)) u.natAbs = u := by
    unfold sgn
    by_cases h : u < 0
    · rw [if_pos (decide_eq_true h)]; omega
    · rw [if_neg (by rw [decide_eq_false h]; exact Bool.false_ne_true)]; omega
  unfold spell
  rw [dT_neg, dT_body]
  by_cases h0 : s = 0
  · subst h0
    rw [if_pos rfl]
    obtain ⟨e1, e2⟩ := cut_of_none (dig_no (dF_dig u 0) (show 46 < 48 by decide))
    rw [e1, e2]
    have hw := dF_whole u 0
    rw [Nat.sub_zero, List.take_length] at hw
    rw [spellB_none, if_pos ⟨hw, hl⟩, dF_val, hs]
  · rw [if_neg h0]
    obtain ⟨e1, e2⟩ := cut_of (c := 46) (p := (dF u s).take ((dF u s).length - s)) (q := (dF u s).drop ((dF u s).length - s)) fun m => dig_no (dF_dig u s) (show 46 < 48 by decide) (List.mem_of_mem_take m)
    rw [e1, e2]
    have len := dF_len u s
    have hf : figs ((dF u s).drop ((dF u s).length - s)) = true := all_figs (fun c hc => dF_dig u s c (List.mem_of_mem_drop hc)) fun e => by
      have := congrArg List.length e
      rw [List.length_drop, List.length_nil] at this
      omega
    rw [spellB_some, if_pos ⟨dF_whole u s, hf, by rw [List.length_take, List.length_drop]; omega⟩, List.take_append_drop, dF_val, hs, List.length_drop, show (dF u s).length - ((dF u s).length - s) = s by omega, MD.nrm_self hd]
/-- the figures alone -/
theorem dT_figs (u : Int) (s : Nat) : (((dT u s).filter (fun x => !decide (x = 45))).filter (fun x => !decide (x = 46))).length = (dF u s).length := by
  have key : ∀ l : List Nat, NumText.AllDigits l → (l.filter (fun x => !decide (x = 45))).filter (fun x => !decide (x = 46)) = l := fun l h => by
    rw [List.filter_filter]
    refine List.filter_eq_self.mpr fun x hx => ?_
    have := h x hx
    simp; omega
  have kd := dF_dig u s
  have e : ((dT u s).filter (fun x => !decide (x = 45))).filter (fun x => !decide (x = 46)) = dF u s := by
    unfold dT
    rw [List.filter_append, List.filter_append]
    have e1 : (((if u < 0 then [45] else [] : List Nat)).filter (fun x => !decide (x = 45))).filter (fun x => !decide (x = 46)) = [] := by split <;> rfl
    rw [e1, List.nil_append]
    split
    · exact key _ kd
    · rw [List.filter_append, List.filter_append, List.filter_append, List.filter_append, key _ (fun c hc => kd c (List.mem_of_mem_take hc)), key _ (fun c hc => kd c (List.mem_of_mem_drop hc))]
      rw [show ([46] : List Nat).filter (fun x => !decide (x = 45)) = [46] from rfl, show ([46] : List Nat).filter (fun x => !decide (x = 46)) = [] from rfl, List.append_nil, List.take_append_drop]
  rw [e]
end MT
namespace MT
open PySem PySem.Spec PyProof.Rows L2 MW
open SX (S)
theorem starts_S {c : Nat} {l : List Nat} : Txt.startswith (S l) (S [c]) = decide (l.head? = some c) := by
  unfold Txt.startswith
  have h := StrLaws.subAt_one (S l) c 0
  have e : (S l).cps.toList[0]? = l.head? := by rw [List.head?_eq_getElem?]
  rw [e] at h
  rw [Bool.eq_iff_iff, Bool.and_eq_true, decide_eq_true_eq, decide_eq_true_eq]
  exact h
theorem spell_def (l : List Nat) : spell l = spellB (isNeg l) (cutW 46 (bodyOf l)) (cutR 46 (bodyOf l)) := rfl
theorem body_len (l : List Nat) : (bodyOf l).length ≤ l.length := by
  unfold bodyOf
  split
  · rw [List.length_drop]; omega
  · exact Nat.le_refl _
theorem body_mem {l : List Nat} {c : Nat} (h : c ∈ bodyOf l) : c ∈ l := by
  unfold bodyOf at h
  split at h
  · exact List.mem_of_mem_drop h
  · exact h
theorem cutW_mem {k : Nat} {l : List Nat} {c : Nat} (h : c ∈ cutW k l) : c ∈ l := (List.takeWhile_sublist _).subset h
theorem cutR_mem {k : Nat} {l r : List Nat} (e : cutR k l = some r) {c : Nat} (h : c ∈ r) : c ∈ l := by
  rw [cut_some e]
  exact List.mem_append_right _ (List.mem_cons_of_mem _ h)
theorem cutR_len {k : Nat} {l r : List Nat} (e : cutR k l = some r) : (cutW k l).length + 1 + r.length = l.length := by
  have := congrArg List.length (cut_some e)
  rw [List.length_append, List.length_cons] at this
  omega
/-- figures == text -/
theorem body_eq (l : List Nat) : decide (bodyOf l = l) = !isNeg l := by
  unfold bodyOf
  cases h : isNeg l with
  | true =>
    rw [if_pos rfl]
    refine decide_eq_false fun e => ?_
    have h := of_decide_eq_true h
    cases l with
    | nil => cases h
    | cons a r => have := congrArg List.length e; simp at this
  | false => rw [if_neg Bool.false_ne_true]; exact decide_eq_true rfl
end MT
namespace MT
open PySem PySem.Spec PyProof.Rows L2 MW
open SX (S)
/-- more than one point -/
theorem not_figs {f : List Nat} {c : Nat} (h : c ∈ f) (hc : c < 48) : figs f = false := by
  cases e : figs f with
  | false => rfl
  | true =>
    have := List.all_eq_true.mp (figs_all e).2 c h
    rw [Bool.and_eq_true, decide_eq_true_eq] at this
    omega
theorem cutR_in {c : Nat} {l r : List Nat} (e : cutR c l = some r) : c ∈ l := by
  rw [cut_some e]
  exact List.mem_append_right _ (List.mem_cons_self ..)
theorem spl_len2 {c : Nat} (l : List Nat) : (TL.spl [c] 0 [] l).length = 1 ↔ cutR c l = none := by
  cases h : cutR c l with
  | none => rw [spl_none h]; simp
  | some r =>
    rw [spl_some h]
    have := spl_ne (c := c) r
    simp only [List.length_cons]
    exact ⟨fun e => by omega, fun e => by cases e⟩
/-- the law's reader, by the parts -/
def readP (neg : Bool) (ps : List (List Nat)) : Option (Int × Nat) :=
  if ps.length > 2 ∨ ps.flatten.length > 18 then none else
  if ps.all figs = false then none else
  if (ps.headD []).length > 1 ∧ (ps.headD []).headD 0 = 48 then none else
  some (MD.nrm (sgn neg (NumText.digitsVal ps.flatten)) (if ps.length = 2 then (ps.getD 1 []).length else 0))
theorem whole_iff (w : List Nat) : whole w = (figs w && !decide (w.length > 1 ∧ w.headD 0 = 48)) := by
  unfold whole
  cases hf : figs w with
  | false => rfl
  | true =>
    rw [Bool.true_and, Bool.true_and]
    have hne := (figs_all hf).1
    cases w with
    | nil => exact absurd rfl hne
    | cons a r =>
      cases r with
      | nil =>
        show (decide ([a] = [48]) || !decide (a = 48)) = !decide ((1 : Nat) > 1 ∧ a = 48)
        by_cases h : a = 48
        · subst h; rfl
        · rw [decide_eq_false (show ¬ [a] = [48] from fun e => h (by simpa using e)), decide_eq_false h, decide_eq_false (fun z => h z.2)]; rfl
      | cons b r =>
        show (decide (a :: b :: r = [48]) || !decide (a = 48)) = !decide ((a :: b :: r).length > 1 ∧ a = 48)
        rw [decide_eq_false (show ¬ a :: b :: r = [48] from fun e => by simp at e), Bool.false_or]
        congr 1
        congr 1
        exact propext ⟨fun h => ⟨by simp, h⟩, fun h => h.2⟩
theorem read_spell (neg : Bool) (b : List Nat) : spellB neg (cutW 46 b) (cutR 46 b) = readP neg (TL.spl [46] 0 [] b) := by
  cases h : cutR 46 b with
  | none =>
    rw [spl_none h, (cut_none h).1, spellB_none]
    unfold readP
    have e1 : [b].flatten = b := by simp
    have e2 : [b].all figs = figs b := by simp
    rw [e1, e2]
    show _ = if ((1 : Nat) > 2 ∨ b.length > 18) then none else _
    by_cases hl : b.length > 18
    · rw [if_neg (fun z => by have := z.2; omega), if_pos (.inr hl)]
    · rw [if_neg (show ¬ ((1 : Nat) > 2 ∨ b.length > 18) from fun z => z.elim (fun z => by omega) hl)]
      rw [whole_iff]
      cases hf : figs b with
      | false => rw [if_neg (fun z => by cases z.1), if_pos rfl]
      | true =>
        rw [if_neg (show ¬ (true = false) by simp)]
        show _ = if b.length > 1 ∧ b.headD 0 = 48 then none else some (MD.nrm (sgn neg (NumText.digitsVal b)) 0)
        by_cases hz : b.length > 1 ∧ b.headD 0 = 48
        · rw [if_neg (fun z => by rw [decide_eq_true hz] at z; cases z.1), if_pos hz]
        · rw [if_neg hz, if_pos ⟨by rw [decide_eq_false hz]; rfl, by omega⟩]
          rfl
  | some f =>
    rw [spl_some h, spellB_some]
    cases h2 : cutR 46 f with
    | some g =>
      rw [spl_some h2]
      have hn := not_figs (cutR_in h2) (by decide)
      rw [if_neg (fun z => by rw [hn] at z; cases z.2.1)]
      unfold readP
      rw [if_pos (.inl (by have := spl_ne (c := 46) g; simp only [List.length_cons]; omega))]
    | none =>
      rw [spl_none h2]
      unfold readP
      have e1 : [cutW 46 b, f].flatten = cutW 46 b ++ f := by simp
      have e2 : [cutW 46 b, f].all figs = (figs (cutW 46 b) && figs f) := by simp
      rw [e1, e2]
      show _ = if ((2 : Nat) > 2 ∨ (cutW 46 b ++ f).length > 18) then none else _
      generalize cutW 46 b = w
      rw [List.length_append]
      by_cases hl : w.length + f.length > 18
      · rw [if_neg (fun z => by have := z.2; omega), if_pos (.inr hl)]
      · rw [if_neg (show ¬ ((2 : Nat) > 2 ∨ w.length + f.length > 18) from fun z => z.elim (fun z => by omega) hl), whole_iff]
        cases hf : figs f with
        | false => rw [if_neg (fun z => by cases z.2.1), if_pos (by simp)]
        | true =>
          cases hw : figs w with
          | false => rw [if_neg (fun z => by cases z.1), if_pos (show (false && true) = false from rfl)]
          | true =>
            rw [if_neg (show ¬ ((true && true) = false) by simp)]
            show _ = if w.length > 1 ∧ w.headD 0 = 48 then none else some (MD.nrm (sgn neg (NumText.digitsVal (w ++ f))) f.length)
            by_cases hz : w.length > 1 ∧ w.headD 0 = 48
            · rw [if_neg (fun z => by rw [decide_eq_true hz] at z; cases z.1), if_pos hz]
            · rw [if_neg hz, if_pos ⟨by rw [decide_eq_false hz]; rfl, rfl, by omega⟩]
end MT
namespace MT
open PySem PySem.Spec PyProof.Rows L2 MW
open SX (S)
theorem repl_dash (l : List Nat) : Txt.replace (S l) ("-" : Str) ("" : Str) = S (l.filter (fun x => !decide (x = 45))) := by
  have e1 : ("-" : Str) = S [45] := by decide +kernel
  have e2 : ("" : Str) = S [] := by decide +kernel
  rw [e1, e2]; exact repl_S (by decide) l
theorem repl_dot (l : List Nat) : Txt.replace (S l) ("." : Str) ("" : Str) = S (l.filter (fun x => !decide (x = 46))) := by
  have e1 : ("." : Str) = S [46] := by decide +kernel
  have e2 : ("" : Str) = S [] := by decide +kernel
  rw [e1, e2]; exact repl_S (by decide) l
theorem empty_len : ("" : Str).length = 0 := by decide +kernel
theorem dF_le {u : Int} {s : Nat} (hu : u.natAbs ≤ 10 ^ 18) (hs : s ≤ 18) : (dF u s).length ≤ 19 := by
  have := TL.numL_len (k := 19) (by decide) (show u.natAbs < 10 ^ 19 from Nat.lt_of_le_of_lt hu (by decide))
  unfold dF
  rw [List.length_append, List.length_replicate]
  omega
theorem dT_ok {u : Int} {s : Nat} (hu : u.natAbs ≤ 10 ^ 18) (hs : s ≤ 18) : (dT u s).length ≤ 21 ∧ ∀ c ∈ dT u s, c < 128 := by
  have hl := dF_le hu hs
  have kd := dF_dig u s
  have kd' : ∀ c ∈ dF u s, c < 128 := fun c h => by have := kd c h; omega
  unfold dT
  constructor
  · rw [List.length_append]
    have e1 : (if u < 0 then [45] else [] : List Nat).length ≤ 1 := by split <;> decide
    have e2 : (if s = 0 then dF u s else (dF u s).take ((dF u s).length - s) ++ [46] ++ (dF u s).drop ((dF u s).length - s) : List Nat).length ≤ 20 := by
      split
      · omega
      · rw [List.length_append, List.length_append, List.length_take, List.length_drop]
        show _ + 1 + _ ≤ _
        omega
    omega
  · intro c hc
    rcases List.mem_append.mp hc with h | h
    · split at h
      · rw [List.mem_singleton.mp h]; decide
      · cases h
    · split at h
      · exact kd' c h
      · rcases List.mem_append.mp h with h | h
        · rcases List.mem_append.mp h with h | h
          · exact kd' c (List.mem_of_mem_take h)
          · rw [List.mem_singleton.mp h]; decide
        · exact kd' c (List.mem_of_mem_drop h)
end MT

namespace D
open PySem PySem.Spec PyProof.Rows L2
local macro_rules | `(tactic| k_memK) => `(tactic| first
  | (with_reducible refine WP.eqTS ?_) | (with_reducible refine WP.neTS ?_) | (with_reducible refine WP.bm ?_) | (with_reducible refine WP.tyS ?_) | (with_reducible refine WP.gsub ?_) | (with_reducible refine WP.rng3 ?_) | (with_reducible refine WP.wstr ?_) | (with_reducible refine WP.bm0 ?_) | (with_reducible refine WP.lc ?_) | (with_reducible refine WP.jr ?_)
  | (with_reducible refine WP.seq ?_) | (with_reducible refine WP.asg ?_) | (with_reducible refine WP.name ?_)
  | ((with_reducible show tVar _ _ _ _); refine WP.var rfl ?_) | (with_reducible refine WP.con ?_) | (with_reducible refine WP.op ?_) | (with_reducible refine WP.i0 ?_)
  | (with_reducible refine WP.un ?_) | (with_reducible refine WP.rU_ ?_)
  | (with_reducible refine WP.ifS ?_) | (with_reducible refine WP.ifE ?_) | (with_reducible refine WP.test ?_) | (with_reducible refine WP.bt ?_) | (with_reducible refine WP.isbV ?_)
  | (with_reducible refine WP.ret ?_) | (with_reducible refine WP.retN ?_) | (with_reducible refine WP.drop ?_) | (with_reducible refine WP.next ?_) | (with_reducible refine WP.brk ?_) | (with_reducible refine WP.cont ?_)
  | (with_reducible refine WP.cb ?_) | (with_reducible refine WP.call ?_) | (with_reducible refine WP.cons ?_) | (with_reducible refine WP.nil ?_) | (with_reducible refine WP.tup ?_) | (with_reducible refine WP.lst ?_)
  | (with_reducible refine WP.eqI ?_) | (with_reducible refine WP.neI ?_) | (with_reducible refine WP.eqT ?_) | (with_reducible refine WP.neT ?_) | (with_reducible refine WP.eqB ?_) | (with_reducible refine WP.neB ?_)
  | (with_reducible refine WP.notT ?_) | (with_reducible refine WP.andT ?_) | (with_reducible refine WP.orT ?_) | (with_reducible refine WP.andV ?_) | (with_reducible refine WP.orV ?_) | (with_reducible refine WP.notV ?_)
  | (with_reducible refine WP.sl ?_) | (with_reducible refine WP.noPart ?_) | (with_reducible refine WP.part ?_) | (with_reducible refine WP.isi ?_) | (with_reducible refine WP.isbV ?_) | (with_reducible refine WP.gsCons ?_) | (with_reducible refine WP.gsNil ?_) | (with_reducible refine WP.forl ?_) | (with_reducible refine WP.rng1 ?_) | (with_reducible refine WP.rng2 ?_) | (with_reducible refine WP.walkL ?_) | (with_reducible refine WP.walkT ?_))
local macro_rules | `(tactic| k_updF) => `(tactic| repeat k_memK)

def top (i : Nat) : Stmt := PySem.Challenge.pw_cardwright_k04_texts_of_decimals.main.body.getD i (.Pass ⟨0, 0, 0, 0⟩)
structure Blt (w : World) (K : PySem.W.Frag) (mg : Str → Option Value) : Prop where
  b_abs : mg "abs" = none
  b_all : mg "all" = none
  b_divmod : mg "divmod" = none
  b_int : mg "int" = none
  b_isinstance : mg "isinstance" = none
  b_len : mg "len" = none
  b_max : mg "max" = none
  b_min : mg "min" = none
  b_range : mg "range" = none
  b_reversed : mg "reversed" = none
  b_str : mg "str" = none
  c_FIGURES : ∃ u, mg "FIGURES" = some u ∧ RelV (.str (SX.S [48, 49, 50, 51, 52, 53, 54, 55, 56, 57])) u
  c_MOST_DIGITS : ∃ u, mg "MOST_DIGITS" = some u ∧ RelV (.int 18) u
  c_PART : ∃ u, mg "PART" = some u ∧ RelV (.int 1000000000000000000) u
  c_PART_FIGURES : ∃ u, mg "PART_FIGURES" = some u ∧ RelV (.int 18) u
  e_BadDecimal : WP.ExcOk K mg "BadDecimal"
  e_CardError : WP.ExcOk K mg "CardError"
  s_BadDecimal_CardError : PySem.W.subIn K (.ref (WP.ca mg "BadDecimal")) (.ref (WP.ca mg "CardError")) = some true
  i_BadDecimal_BadDecimal : PySem.W.kitOne K (.ref (WP.ca mg "BadDecimal")) (.ref (WP.ca mg "BadDecimal")) = some true
abbrev s__law_rich : Stmt := top 18
abbrev N__law_rich : List Str := ["cell", "k", "mixed"]
theorem sc__law_rich : FnScope N__law_rich ["cell", "k"] (defScope s__law_rich) := ⟨rfl, rfl, rfl, by decide +kernel, rfl, by decide +kernel, by decide +kernel⟩
def sp__law_rich (K : PySem.W.Frag) (mg : WP.MG) : Sp := fun vs H Q _ => ∃ c k : Int, vs = [.int c, .int k] ∧ ∀ r : Int, 0 ≤ r → Q (.int r) H
section
variable {P : Program} {w : World} {K : PySem.W.Frag} {mg : Str → Option Value} {base : Heap}
theorem ok__law_rich {f : Addr} {fd : FuncData} (F : Fun K "_law_rich" "_law_rich" s__law_rich f fd) (B : Blt w K mg)  : FnOk P w K mg base CX0 1 f fd ["cell", "k"] (sp__law_rich K mg) := by
  refine F.ok sc__law_rich (fun vs H Q E h => ?_) (fun cdv A outer s H vs Q E hr h => ?_)
  · first | (obtain ⟨_, rfl, _⟩ := h; rfl) | (obtain ⟨_, _, rfl, _⟩ := h; rfl) | (obtain ⟨_, _, _, rfl, _⟩ := h; rfl) | (obtain ⟨_, _, _, _, rfl, _⟩ := h; rfl) | (obtain ⟨_, _, _, _, _, rfl, _⟩ := h; rfl) | (obtain ⟨_, _, _, _, _, _, rfl, _⟩ := h; rfl) | (obtain ⟨_, _, _, _, _, _, _, rfl, _⟩ := h; rfl) | (obtain ⟨_, _, _, _, _, _, _, _, rfl, _⟩ := h; rfl) | (obtain ⟨rfl, _⟩ := h; rfl)
  · obtain ⟨c, i, rfl, k⟩ := h
    refine ⟨_, (pss_cons (ps_if (pt_cmpR op_ge (pv 0) (pe_op op_pow pe_int pe_int) (nomark _)) (pss_one (ps_ret (pe_callTy WP.c_int1 (by rfl) B.b_int (by decide +kernel) (WP.pa_consN (pv 0) pa_nil)))) pss_nil)
      (pss_cons (ps_set (i := 2) sc__law_rich.nd rfl (Or.inl rfl) (pe_op op_mod (pe_callTy WP.c_int1 (by rfl) B.b_int (by decide +kernel) (WP.pa_consN (pe_op op_add (pe_op op_add (pe_op op_mul (pv 0) pe_int) (pe_op op_mul (pv 1) pe_int)) pe_int) pa_nil)) pe_int))
      (pss_one (ps_ret (pe_op op_add (pe_op op_mul (pv 2) pe_int) (pe_op op_mod (pe_callTy WP.c_int1 (by rfl) B.b_int (by decide +kernel) (WP.pa_consN (pe_op op_add (pe_op op_mul (pv 2) pe_int) (pv 0)) pa_nil)) pe_int)))))), ?_⟩
    k_updF
    refine WP.iC ⟨by decide, by decide, by decide⟩ ?_
    k_updF
    refine WP.br (fun g => ?_) (fun g => ?_)
    · k_updF
      refine WP.intI (k _ ?_)
      have : (0 : Int) ≤ 10 ^ (18 : Int).toNat := by decide
      omega
    · k_updF
      refine WP.iC (.inr (by decide)) ?_
      k_updF
      refine WP.iC (.inr (by decide)) ?_
      k_updF
      refine WP.intI ?_
      k_updF
      refine WP.iC (by decide) ?_
      k_updF
      refine WP.iC (.inr (by decide)) ?_
      k_updF
      refine WP.iC (.inr (by decide)) ?_
      k_updF
      refine WP.intI ?_
      k_updF
      refine WP.iC (by decide) ?_
      k_updF
      refine k _ ?_
      have h1 := Int.emod_nonneg (c * 48271 + i * 69621 + 11) (show (2147483647 : Int) ≠ 0 by decide)
      have h2 := Int.emod_nonneg ((c * 48271 + i * 69621 + 11) % 2147483647 * 16807 + c) (show (2147483629 : Int) ≠ 0 by decide)
      omega
end
abbrev s__law_decimal : Stmt := top 19
abbrev N__law_decimal : List Str := ["units", "scale", "k"]
theorem sc__law_decimal : FnScope N__law_decimal ["units", "scale"] (defScope s__law_decimal) := ⟨rfl, rfl, rfl, by decide +kernel, rfl, by decide +kernel, by decide +kernel⟩
def sp__law_decimal (K : PySem.W.Frag) (mg : WP.MG) : Sp := fun vs H Q _ => ∃ (u : Int) (s : Int), vs = [.int u, .int s] ∧ 0 ≤ s ∧ s ≤ 5000 ∧ WP.RetT (WP.dv (MD.nrm u s.toNat).1 (MD.nrm u s.toNat).2) H Q
section
variable {P : Program} {w : World} {K : PySem.W.Frag} {mg : Str → Option Value} {base : Heap}
theorem ok__law_decimal {f : Addr} {fd : FuncData} (F : Fun K "_law_decimal" "_law_decimal" s__law_decimal f fd) (B : Blt w K mg)  : FnOk P w K mg base CX0 1 f fd ["units", "scale"] (sp__law_decimal K mg) := by
  refine F.ok sc__law_decimal (fun vs H Q E h => ?_) (fun cdv A outer s H vs Q E hr h => ?_)
  · first | (obtain ⟨_, rfl, _⟩ := h; rfl) | (obtain ⟨_, _, rfl, _⟩ := h; rfl) | (obtain ⟨_, _, _, rfl, _⟩ := h; rfl) | (obtain ⟨_, _, _, _, rfl, _⟩ := h; rfl) | (obtain ⟨_, _, _, _, _, rfl, _⟩ := h; rfl) | (obtain ⟨_, _, _, _, _, _, rfl, _⟩ := h; rfl) | (obtain ⟨_, _, _, _, _, _, _, rfl, _⟩ := h; rfl) | (obtain ⟨_, _, _, _, _, _, _, _, rfl, _⟩ := h; rfl) | (obtain ⟨rfl, _⟩ := h; rfl)
  · obtain ⟨u, s', rfl, hs, hs2, k⟩ := h
    refine ⟨_, (pss_cons (ps_for PassesOwn.never rfl (pi_range1 rfl B.b_range (WP.pa_consN (pv 1) pa_nil)) (pg_name (i := 2) sc__law_decimal.nd rfl (Or.inl rfl)) (pss_one (ps_if (pt_cmpR op_eq (pe_op op_mod (pe_callTy WP.c_int1 (by rfl) B.b_int (by decide +kernel) (WP.pa_consN (pv 0) pa_nil)) pe_int) pe_int (nomark _)) (pss_cons (ps_set (i := 0) sc__law_decimal.nd rfl (Or.inl rfl) (pe_op op_fdiv (pv 0) pe_int))
      (pss_one (ps_set (i := 1) sc__law_decimal.nd rfl (Or.inl rfl) (pe_op op_sub (pv 1) pe_int)))) (pss_one (ps_ret (pe_tup (WP.pa_consN (pv 0) (WP.pa_consN (pv 1) pa_nil))))))))
      (pss_one (ps_ret (pe_tup (WP.pa_consN (pv 0) (WP.pa_consN (pv 1) pa_nil)))))), ?_⟩
    k_updF
    refine ⟨_, rfl, by omega, by omega, for_range (lo := 0) (n := s'.toNat) (fun i σ' H' => ∃ (a : Int) (n : Nat) (z : Option V), σ' = [some (.int a), some (.int (n : Int)), z] ∧ H' = H ∧ n + i = s'.toNat ∧ MD.nrm a n = MD.nrm u s'.toNat)
      ⟨u, s'.toNat, none, by rw [Int.toNat_of_nonneg hs]; rfl, rfl, by omega, rfl⟩ ?_ ?_⟩
    · rintro i σ' H' hi ⟨a, n, z, rfl, rfl, hn, e⟩
      obtain ⟨n', rfl⟩ : ∃ n', n = n' + 1 := ⟨n - 1, by omega⟩
      k_updF
      refine WP.intI ?_
      k_updF
      refine WP.iC (show (0 : Int) < 10 by decide) ?_
      k_updF
      refine WP.br (fun c => ?_) (fun c => ?_)
      · k_updF
        refine WP.iC ⟨by decide, by decide⟩ ?_
        k_updF
        refine ⟨a / 10, n', some (.int (0 + (i : Int))), ?_, rfl, by omega, ?_⟩
        · rw [show ((n' + 1 : Nat) : Int) - 1 = (n' : Int) by omega]; rfl
        · rw [← e]
          show _ = if a % 10 = 0 then _ else _
          rw [if_pos c]
      · k_updF
        refine ⟨WP.sz2, ?_⟩
        rw [← e, MD.nrm_self (.inr c)] at k
        exact k.new (Same.refl _)
    · rintro σ' H' ⟨a, n, z, rfl, rfl, hn, e⟩
      obtain rfl : n = 0 := by omega
      k_updF
      refine ⟨WP.sz2, ?_⟩
      rw [← e] at k
      exact k.new (Same.refl _)
end
abbrev s__law_number : Stmt := top 20
abbrev N__law_number : List Str := ["rich", "choice", "rest"]
theorem sc__law_number : FnScope N__law_number ["rich"] (defScope s__law_number) := ⟨rfl, rfl, rfl, by decide +kernel, rfl, by decide +kernel, by decide +kernel⟩
/-- some decimal of at most 18 figures -/
def sp__law_number (K : PySem.W.Frag) (mg : WP.MG) : Sp := fun vs H Q _ => ∃ r : Int, vs = [.int r] ∧ ∀ (u : Int) (s : Nat), MD.Dec u s → s ≤ 18 → u.natAbs ≤ 10 ^ 18 → WP.RetT (WP.dv u s) H Q
section
variable {P : Program} {w : World} {K : PySem.W.Frag} {mg : Str → Option Value} {base : Heap}
theorem ok__law_number {f : Addr} {fd : FuncData} (F : Fun K "_law_number" "_law_number" s__law_number f fd) (B : Blt w K mg) (c__law_decimal : WP.Callee P w K mg base CX0 1 "_law_decimal" ["units", "scale"] (sp__law_decimal K mg)) : FnOk P w K mg base CX0 2 f fd ["rich"] (sp__law_number K mg) := by
  refine F.ok sc__law_number (fun vs H Q E h => ?_) (fun cdv A outer s H vs Q E hr h => ?_)
  · first | (obtain ⟨_, rfl, _⟩ := h; rfl) | (obtain ⟨_, _, rfl, _⟩ := h; rfl) | (obtain ⟨_, _, _, rfl, _⟩ := h; rfl) | (obtain ⟨_, _, _, _, rfl, _⟩ := h; rfl) | (obtain ⟨_, _, _, _, _, rfl, _⟩ := h; rfl) | (obtain ⟨_, _, _, _, _, _, rfl, _⟩ := h; rfl) | (obtain ⟨_, _, _, _, _, _, _, rfl, _⟩ := h; rfl) | (obtain ⟨_, _, _, _, _, _, _, _, rfl, _⟩ := h; rfl) | (obtain ⟨rfl, _⟩ := h; rfl)
  · obtain ⟨r, rfl, k⟩ := h
    refine ⟨_, (pss_cons (ps_set (i := 1) sc__law_number.nd rfl (Or.inl rfl) (pe_op op_mod (pv 0) pe_int))
      (pss_cons (ps_set (i := 2) sc__law_number.nd rfl (Or.inl rfl) (pe_op op_fdiv (pv 0) pe_int))
      (pss_cons (ps_if (pt_cmpR op_eq (pv 1) pe_int (nomark _)) (pss_one (ps_ret (WP.pe_callC c__law_decimal hr rfl pass0 (WP.pa_consN (pe_ix ix_list (pe_lst (WP.pa_consN pe_int (WP.pa_consN pe_int (WP.pa_consN (pe_un un_neg pe_int) (WP.pa_consN pe_int (WP.pa_consN (pe_un un_neg pe_int) (WP.pa_consN pe_int pa_nil))))))) (pe_op op_mod (pv 2) pe_int) (fun _ _ => rfl)) (WP.pa_consN (pe_op op_mod (pe_op op_fdiv (pv 2) pe_int) pe_int) pa_nil))))) pss_nil)
      (pss_cons (ps_if (pt_cmpR op_lt (pv 1) pe_int (nomark _)) (pss_one (ps_ret (WP.pe_callC c__law_decimal hr rfl pass0 (WP.pa_consN (pe_op op_sub (pe_op op_mod (pv 2) pe_int) pe_int) (WP.pa_consN (pe_op op_mod (pe_op op_fdiv (pv 2) pe_int) pe_int) pa_nil))))) pss_nil)
      (pss_one (ps_ret (WP.pe_callC c__law_decimal hr rfl pass0 (WP.pa_consN (pe_op op_sub (pe_op op_mod (pv 2) (pe_op op_mul pe_int (pe_op op_pow pe_int pe_int))) (pe_op op_pow pe_int pe_int)) (WP.pa_consN (pe_op op_mod (pe_op op_fdivW (pv 2) (pe_op op_pow pe_int pe_int)) pe_int) pa_nil))))))))), ?_⟩
    have fin : ∀ (u s : Int) (H' : Hp), Same H H' → u.natAbs ≤ 10 ^ 18 → 0 ≤ s → s ≤ 18 → WP.RetT (WP.dv (MD.nrm u s.toNat).1 (MD.nrm u s.toNat).2) H' Q := fun u s H' e hu h0 h1 p H2 e2 hp =>
      k _ _ (MD.nrm_dec _ _) (by have := MD.nrm_le s.toNat u; omega) (Nat.le_trans (MD.nrm_abs _ _) hu) p H2 (e.trans e2) hp
    k_updF
    refine WP.iC (by decide) ?_
    k_updF
    refine WP.iC ⟨by decide, by decide⟩ ?_
    k_updF
    refine WP.br (fun c => ?_) (fun c => ?_)
    · k_updF
      refine ⟨by show 6 ≤ sizeLine; exact WP.sz (by decide), fun l hl => ?_⟩
      k_updF
      refine WP.iC (by decide) ?_
      have hm := Int.emod_nonneg (r / 6) (show (6 : Int) ≠ 0 by decide)
      have hm2 := Int.emod_lt_of_pos (r / 6) (show (0 : Int) < 6 by decide)
      refine WP.ixL (xs := [0, 1, -1, 10, -100, 5].map V.int) (SqL.of upd_same) (WP.at_ints hm hm2) ?_
      k_updF
      refine WP.iC ⟨by decide, by decide⟩ ?_
      k_updF
      refine WP.iC (by decide) ?_
      k_updF
      refine ⟨_, _, rfl, Int.emod_nonneg _ (by decide), by have := Int.emod_lt_of_pos (r / 6 / 6) (show (0 : Int) < 3 by decide); omega, fin _ _ _ (WP.same_new hl) ?_ (Int.emod_nonneg _ (by decide)) (by have := Int.emod_lt_of_pos (r / 6 / 6) (show (0 : Int) < 3 by decide); omega)⟩
      have : ∀ j : Nat, j < 6 → ([0, 1, -1, 10, -100, 5] : List Int).getD j 0 ∈ ([0, 1, -1, 10, -100, 5] : List Int) := by decide
      have m := this (r / 6 % 6).toNat (by omega)
      have : ∀ x ∈ ([0, 1, -1, 10, -100, 5] : List Int), x.natAbs ≤ 10 ^ 18 := by decide
      exact this _ m
    · k_updF
      refine WP.br (fun c => ?_) (fun c => ?_)
      · k_updF
        refine WP.iC (by decide) ?_
        k_updF
        refine WP.iC ⟨by decide, by decide⟩ ?_
        k_updF
        refine WP.iC (by decide) ?_
        k_updF
        have a1 := Int.emod_nonneg (r / 6) (show (20001 : Int) ≠ 0 by decide)
        have a2 := Int.emod_lt_of_pos (r / 6) (show (0 : Int) < 20001 by decide)
        have b1 := Int.emod_nonneg (r / 6 / 20001) (show (5 : Int) ≠ 0 by decide)
        have b2 := Int.emod_lt_of_pos (r / 6 / 20001) (show (0 : Int) < 5 by decide)
        exact ⟨_, _, rfl, b1, by omega, fin _ _ _ (Same.refl _) (by omega) b1 (by omega)⟩
      · k_updF
        refine WP.iC ⟨by decide, by decide, by decide⟩ ?_
        refine WP.iC (.inl (by decide)) ?_
        refine WP.iC (by decide) ?_
        k_updF
        refine WP.iC ⟨by decide, by decide, by decide⟩ ?_
        k_updF
        refine WP.iC ⟨by decide, by decide, by decide⟩ ?_
        refine WP.iC (WP.Bt.d' (b := 60) (by decide) (by unfold WP.Bt; decide)) ?_
        k_updF
        refine WP.iC (by decide) ?_
        k_updF
        have e1 : (2 * 10 ^ (18 : Int).toNat : Int) = 2000000000000000000 := by decide
        have e2 : (10 ^ (18 : Int).toNat : Int) = 1000000000000000000 := by decide
        rw [e1, e2]
        have a1 := Int.emod_nonneg (r / 6) (show (2000000000000000000 : Int) ≠ 0 by decide)
        have a2 := Int.emod_lt_of_pos (r / 6) (show (0 : Int) < 2000000000000000000 by decide)
        have b1 := Int.emod_nonneg (r / 6 / (10 ^ (15 : Int).toNat)) (show (19 : Int) ≠ 0 by decide)
        have b2 := Int.emod_lt_of_pos (r / 6 / (10 ^ (15 : Int).toNat)) (show (0 : Int) < 19 by decide)
        exact ⟨_, _, rfl, b1, by omega, fin _ _ _ (Same.refl _) (by omega) b1 (by omega)⟩
end
abbrev s__figures : Stmt := top 13
abbrev N__figures : List Str := ["units", "parts", "part"]
theorem sc__figures : FnScope N__figures ["units"] (defScope s__figures) := ⟨rfl, rfl, rfl, by decide +kernel, rfl, by decide +kernel, by decide +kernel⟩
def sp__figures (K : PySem.W.Frag) (mg : WP.MG) : Sp := fun vs H Q _ => ∃ n : Nat, vs = [.int (n : Int)] ∧ n < 10 ^ 570 ∧ WP.RetV (.str (SX.S (TL.numL n))) H Q
section
variable {P : Program} {w : World} {K : PySem.W.Frag} {mg : Str → Option Value} {base : Heap}
theorem ok__figures {f : Addr} {fd : FuncData} (F : Fun K "_figures" "_figures" s__figures f fd) (B : Blt w K mg)  : FnOk P w K mg base CX0 1 f fd ["units"] (sp__figures K mg) := by
  refine F.ok sc__figures (fun vs H Q E h => ?_) (fun cdv A outer s H vs Q E hr h => ?_)
  · first | (obtain ⟨_, rfl, _⟩ := h; rfl) | (obtain ⟨_, _, rfl, _⟩ := h; rfl) | (obtain ⟨_, _, _, rfl, _⟩ := h; rfl) | (obtain ⟨_, _, _, _, rfl, _⟩ := h; rfl) | (obtain ⟨_, _, _, _, _, rfl, _⟩ := h; rfl) | (obtain ⟨_, _, _, _, _, _, rfl, _⟩ := h; rfl) | (obtain ⟨_, _, _, _, _, _, _, rfl, _⟩ := h; rfl) | (obtain ⟨_, _, _, _, _, _, _, _, rfl, _⟩ := h; rfl) | (obtain ⟨rfl, _⟩ := h; rfl)
  · obtain ⟨n, rfl, hn, k⟩ := h
    refine ⟨_, (pss_cons (ps_set (i := 1) sc__figures.nd rfl (Or.inl rfl) (pe_lst pa_nil))
      (pss_cons (ps_while PassesOwn.never (pt_cmpR op_ge (pv 0) (WP.pe_const rfl B.c_PART) (nomark _)) (pss_cons (ps_asg (pe_callB WP.c_divmodW (by rfl) B.b_divmod (by decide +kernel) (WP.pa_consN (pv 0) (WP.pa_consN (WP.pe_const rfl B.c_PART) pa_nil))) (pg_tup (by rfl) (pgs_cons (pg_name (i := 0) sc__figures.nd rfl (Or.inl rfl)) (pgs_cons (pg_name (i := 2) sc__figures.nd rfl (Or.inl rfl)) pgs_nil))))
      (pss_one (ps_expr (pe_bm PySem.F.plainAttrs_list PySem.F.slot_list_append PySem.F.type_list_append mt_append (pv 1) (WP.pa_consN (pe_bm PySem.F.plainAttrs_str PySem.F.slot_str_zfill PySem.F.type_str_zfill WP.m_zfill (pe_callTy WP.c_str (by rfl) B.b_str (by decide +kernel) (WP.pa_consN (pv 2) pa_nil)) (WP.pa_consN (WP.pe_const rfl B.c_PART_FIGURES) pa_nil)) pa_nil))))))
      (pss_cons (ps_expr (pe_bm PySem.F.plainAttrs_list PySem.F.slot_list_append PySem.F.type_list_append mt_append (pv 1) (WP.pa_consN (pe_callTy WP.c_str (by rfl) B.b_str (by decide +kernel) (WP.pa_consN (pv 0) pa_nil)) pa_nil)))
      (pss_one (ps_ret (WP.pe_joinRev rfl (WP.pe_strL [] (by decide +kernel)) (by rfl) B.b_reversed (pv 1))))))), ?_⟩
    k_updF
    refine ⟨WP.sz (by decide), fun p hp => ?_⟩
    k_updF
    refine ⟨fun m σ H' => ∃ (u : Nat) (ps : List (List Nat)) (z : Option V), σ = [some (.int (u : Int)), some (.ref p), z] ∧ m = u ∧ Same H H' ∧ H' p = some (.lst ((ps.map SX.S).map V.str)) ∧ TL.numL n = TL.numL u ++ ps.reverse.flatten ∧ u ≤ n ∧ ps.length ≤ ps.flatten.length,
      ⟨n, n, [], none, rfl, rfl, WP.same_new hp, upd_same, by simp, Nat.le_refl _, Nat.le_refl _⟩, ?_⟩
    rintro m σ H' ⟨u, ps, z, rfl, rfl, e1, hpp, eN, hun, hlen⟩
    have hnl : (TL.numL n).length ≤ 570 := TL.numL_len (by decide) hn
    have hfl : ps.flatten.length ≤ 570 := by
      have e := congrArg List.length eN
      rw [List.length_append] at e
      have e2 : ps.reverse.flatten.length = ps.flatten.length := by simp [List.length_flatten, List.sum_reverse]
      omega
    k_updF
    refine WP.br (fun c => ?_) (fun c => ?_)
    · refine ⟨fun σ' H2 => ∃ m', m' < m ∧ ∃ (u : Nat) (ps : List (List Nat)) (z : Option V), σ' = [some (.int (u : Int)), some (.ref p), z] ∧ m' = u ∧ Same H H2 ∧ H2 p = some (.lst ((ps.map SX.S).map V.str)) ∧ TL.numL n = TL.numL u ++ ps.reverse.flatten ∧ u ≤ n ∧ ps.length ≤ ps.flatten.length, fun _ _ x => x, ?_⟩
      k_updF
      refine WP.divW (WP.Bt.p (a := 3900) (Nat.lt_of_le_of_lt hun (Nat.lt_trans hn (by decide +kernel))) (by decide)) (fun p2 hp2 => ?_)
      refine WP.unT (SqT.of upd_same) rfl ?_
      k_updF
      have hp3 : upd H' p2 (.tup [.int ((m : Int) / 1000000000000000000), .int ((m : Int) % 1000000000000000000)]) p = some (.lst ((ps.map SX.S).map V.str)) := by rw [upd_ne (ne_of_none hpp hp2)]; exact hpp
      refine WP.tyL (SqL.of hp3) ?_
      k_updF
      rw [show ((m : Int) % 1000000000000000000) = ((m % 1000000000000000000 : Nat) : Int) by omega, show ((m : Int) / 1000000000000000000) = ((m / 1000000000000000000 : Nat) : Int) by omega] at *
      have hr18 : m % 1000000000000000000 < 10 ^ 18 := Nat.mod_lt _ (by decide)
      refine WP.strN (WP.log2_lt (by decide) (Nat.lt_trans hr18 (by decide +kernel))) ?_
      k_updF
      refine WP.zfillS (fun c hc => WP.numL_head hc) (by decide) (by decide) ?_
      k_updF
      refine WP.appL hp3 (by rw [List.length_map, List.length_map, sizeLine_eq]; omega) ?_
      k_updF
      rw [show Int.toNat 18 = 18 from rfl, ← WP.padL_num 18 _ (by decide) hr18]
      have q1 := WP.numL_app 18 (m / 1000000000000000000) (m % 1000000000000000000) (by omega) hr18
      rw [show m / 1000000000000000000 * 10 ^ 18 + m % 1000000000000000000 = m by omega] at q1
      refine ⟨m / 1000000000000000000, by omega, m / 1000000000000000000, ps ++ [WP.padL 18 (m % 1000000000000000000)], some (.int ((m % 1000000000000000000 : Nat) : Int)), rfl, rfl, WP.same_mut (e1.trans (WP.same_new hp2)) hp, ?_, ?_, by omega, ?_⟩
      · rw [upd_same, List.map_append, List.map_append]; rfl
      · rw [eN, q1, List.reverse_append, List.append_assoc]; simp
      · rw [List.length_append, List.flatten_append, List.length_append]
        simp [WP.padL_len]
        rw [List.length_flatten] at hlen
        omega
    · k_updF
      refine WP.tyL (SqL.of hpp) ?_
      k_updF
      refine WP.strN (WP.log2_lt (by decide) (Nat.lt_trans (show m < 10 ^ 18 by omega) (by decide +kernel))) ?_
      k_updF
      refine WP.appL hpp (by rw [List.length_map, List.length_map, sizeLine_eq]; omega) ?_
      k_updF
      refine ⟨⟨_, rfl⟩, ?_⟩
      k_updF
      have hm : (TL.numL m).length ≤ 18 := TL.numL_len (by decide) (show m < 10 ^ 18 by omega)
      refine ⟨_, p, (ps ++ [TL.numL m]).map SX.S, rfl, rfl, SqL.of (by rw [upd_same, List.map_append, List.map_append]; rfl), ?_, ?_⟩
      · rw [SX.lens, SX.S_len, List.map_append, List.sum_append, ← List.length_flatten, List.length_nil, Nat.mul_zero, Nat.add_zero]
        show ps.flatten.length + ((TL.numL m).length + 0) ≤ _
        omega
      · rw [← List.map_reverse, WP.join_nilS, List.reverse_append]
        have e3 : ([TL.numL m].reverse ++ ps.reverse).flatten = TL.numL n := by rw [eN]; rfl
        rw [e3]
        exact k _ (WP.same_mut e1 hp)
end
abbrev s_show : Stmt := top 12
abbrev N_show : List Str := ["a", "units", "scale", "sign", "figures"]
theorem sc_show : FnScope N_show ["a"] (defScope s_show) := ⟨rfl, rfl, rfl, by decide +kernel, rfl, by decide +kernel, by decide +kernel⟩
/-- the figures of a decimal, at least one ahead of the point -/
def dfigs (u : Int) (s : Nat) : List Nat := List.replicate (s + 1 - (TL.numL u.natAbs).length) 48 ++ TL.numL u.natAbs
/-- a decimal's text -/
def dtext (u : Int) (s : Nat) : List Nat := (if u < 0 then [45] else []) ++ (if s = 0 then dfigs u s else (dfigs u s).take ((dfigs u s).length - s) ++ [46] ++ (dfigs u s).drop ((dfigs u s).length - s))
theorem dfigs_len {u : Int} {s : Nat} (h : u.natAbs < 10 ^ 570) : s + 1 ≤ (dfigs u s).length ∧ (dfigs u s).length ≤ 571 + s := by
  have := TL.numL_len (k := 570) (by decide) h
  unfold dfigs
  rw [List.length_append, List.length_replicate]
  omega
def sp_show (K : PySem.W.Frag) (mg : WP.MG) : Sp := fun vs H Q _ => ∃ (p : Addr) (u : Int) (s : Nat), vs = [.ref p] ∧ SqT K H p (WP.dv u s) ∧ u.natAbs < 10 ^ 570 ∧ s ≤ 1000 ∧ WP.RetV (.str (SX.S (dtext u s))) H Q
section
variable {P : Program} {w : World} {K : PySem.W.Frag} {mg : Str → Option Value} {base : Heap}
theorem ok_show {f : Addr} {fd : FuncData} (F : Fun K "show" "show" s_show f fd) (B : Blt w K mg) (c__figures : WP.Callee P w K mg base CX0 1 "_figures" ["units"] (sp__figures K mg)) : FnOk P w K mg base CX0 2 f fd ["a"] (sp_show K mg) := by
  refine F.ok sc_show (fun vs H Q E h => ?_) (fun cdv A outer s H vs Q E hr h => ?_)
  · first | (obtain ⟨_, rfl, _⟩ := h; rfl) | (obtain ⟨_, _, rfl, _⟩ := h; rfl) | (obtain ⟨_, _, _, rfl, _⟩ := h; rfl) | (obtain ⟨_, _, _, _, rfl, _⟩ := h; rfl) | (obtain ⟨_, _, _, _, _, rfl, _⟩ := h; rfl) | (obtain ⟨_, _, _, _, _, _, rfl, _⟩ := h; rfl) | (obtain ⟨_, _, _, _, _, _, _, rfl, _⟩ := h; rfl) | (obtain ⟨_, _, _, _, _, _, _, _, rfl, _⟩ := h; rfl) | (obtain ⟨rfl, _⟩ := h; rfl)
  · obtain ⟨p, u, s', rfl, hp, hu, hs, k⟩ := h
    refine ⟨_, (pss_cons (ps_asg (pv 0) (pg_tup (by rfl) (pgs_cons (pg_name (i := 1) sc_show.nd rfl (Or.inl rfl)) (pgs_cons (pg_name (i := 2) sc_show.nd rfl (Or.inl rfl)) pgs_nil))))
      (pss_cons (ps_set (i := 3) sc_show.nd rfl (Or.inl rfl) (pe_ifExp (pt_cmpR op_lt (pv 1) pe_int (nomark _)) (WP.pe_strL [45] (by decide +kernel)) (WP.pe_strL [] (by decide +kernel))))
      (pss_cons (ps_set (i := 4) sc_show.nd rfl (Or.inl rfl) (pe_bm PySem.F.plainAttrs_str PySem.F.slot_str_zfill PySem.F.type_str_zfill WP.m_zfill (WP.pe_callC c__figures hr rfl pass0 (WP.pa_consN (pe_callB WP.c_abs (by rfl) B.b_abs (by decide +kernel) (WP.pa_consN (pv 1) pa_nil)) pa_nil)) (WP.pa_consN (pe_op op_add (pv 2) pe_int) pa_nil)))
      (pss_cons (ps_if (pt_cmpR op_eq (pv 2) pe_int (nomark _)) (pss_one (ps_ret (pe_op WP.op_addS (pv 3) (pv 4)))) pss_nil)
      (pss_one (ps_ret (pe_op WP.op_addS (pe_op WP.op_addS (pe_op WP.op_addS (pv 3) (pe_slice sl_str (pv 4) po_none (po_some (pe_un un_neg (pv 2))))) (WP.pe_strL [46] (by decide +kernel))) (pe_slice sl_str (pv 4) (po_some (pe_un un_neg (pv 2))) po_none)))))))), ?_⟩
    k_updF
    refine WP.unT hp rfl ?_
    k_updF
    have fl := dfigs_len (s := s') hu
    refine WP.ifSS ?_
    have hsg : (if u < 0 then [45] else [] : List Nat).length ≤ 1 := by split <;> decide
    k_updF
    refine WP.absI ?_
    k_updF
    refine ⟨_, rfl, hu, fun H1 e1 => ?_⟩
    refine WP.tyS ?_
    k_updF
    refine WP.zfillS (fun c hc => WP.numL_head hc) (by omega) (by omega) ?_
    rw [show ((s' : Int) + 1).toNat = s' + 1 by omega]
    have eD : dtext u s' = (if u < 0 then [45] else []) ++ (if s' = 0 then dfigs u s' else (dfigs u s').take ((dfigs u s').length - s') ++ [46] ++ (dfigs u s').drop ((dfigs u s').length - s')) := rfl
    rw [eD] at k
    change WP.RetV (.str (SX.S (_ ++ _))) H Q at k
    have eF : List.replicate (s' + 1 - (TL.numL u.natAbs).length) 48 ++ TL.numL u.natAbs = dfigs u s' := rfl
    rw [eF]
    generalize dfigs u s' = F at k fl ⊢
    generalize (if u < 0 then [45] else [] : List Nat) = sg at k hsg ⊢
    k_updF
    refine WP.br (fun c => ?_) (fun c => ?_)
    · k_updF
      refine WP.catS ?_ (by rw [sizeLine_eq]; omega)
      rw [if_pos (by omega)] at k
      exact k _ e1
    · k_updF
      rw [if_neg (by omega)] at k
      refine WP.slToN (by omega) (by omega) (by rw [sizeLine_eq]; omega) ?_
      rw [show (-(s' : Int) + (F.length : Int)).toNat = F.length - s' by omega]
      refine WP.catS ?_ (by rw [sizeLine_eq, List.length_take]; omega)
      k_updF
      refine WP.catS ?_ (by rw [sizeLine_eq, List.length_append, List.length_take]; show _ + 1 ≤ _; omega)
      k_updF
      refine WP.slFromN (by omega) (by omega) (by rw [sizeLine_eq]; omega) ?_
      rw [show (-(s' : Int) + (F.length : Int)).toNat = F.length - s' by omega]
      refine WP.catS ?_ (by rw [sizeLine_eq, List.length_append, List.length_append, List.length_take, List.length_drop]; show _ + 1 + _ ≤ _; omega)
      rw [List.append_assoc, List.append_assoc]
      rw [List.append_assoc] at k
      exact k _ e1
end
abbrev s__law_changed : Stmt := top 22
abbrev N__law_changed : List Str := ["text", "rich", "k", "at", "choice"]
theorem sc__law_changed : FnScope N__law_changed ["text", "rich"] (defScope s__law_changed) := ⟨rfl, rfl, rfl, by decide +kernel, rfl, by decide +kernel, by decide +kernel⟩
def sp__law_changed (K : PySem.W.Frag) (mg : WP.MG) : Sp := fun vs H Q _ => ∃ (l : List Nat) (r : Int), vs = [.str (SX.S l), .int r] ∧ l.length ≤ 500 ∧ (∀ c ∈ l, c < 128) ∧ ∀ l' : List Nat, l'.length ≤ l.length + 2 → (∀ c ∈ l', c < 128) → Q (.str (SX.S l')) H
section
variable {P : Program} {w : World} {K : PySem.W.Frag} {mg : Str → Option Value} {base : Heap}
theorem ok__law_changed {f : Addr} {fd : FuncData} (F : Fun K "_law_changed" "_law_changed" s__law_changed f fd) (B : Blt w K mg)  : FnOk P w K mg base CX0 1 f fd ["text", "rich"] (sp__law_changed K mg) := by
  refine F.ok sc__law_changed (fun vs H Q E h => ?_) (fun cdv A outer s H vs Q E hr h => ?_)
  · first | (obtain ⟨_, rfl, _⟩ := h; rfl) | (obtain ⟨_, _, rfl, _⟩ := h; rfl) | (obtain ⟨_, _, _, rfl, _⟩ := h; rfl) | (obtain ⟨_, _, _, _, rfl, _⟩ := h; rfl) | (obtain ⟨_, _, _, _, _, rfl, _⟩ := h; rfl) | (obtain ⟨_, _, _, _, _, _, rfl, _⟩ := h; rfl) | (obtain ⟨_, _, _, _, _, _, _, rfl, _⟩ := h; rfl) | (obtain ⟨_, _, _, _, _, _, _, _, rfl, _⟩ := h; rfl) | (obtain ⟨rfl, _⟩ := h; rfl)
  · obtain ⟨l0, r0, rfl, hl, ok, k⟩ := h
    refine ⟨_, (pss_cons (ps_for PassesOwn.never rfl (pi_range1 rfl B.b_range (WP.pa_consN (pe_op op_mod (pv 1) pe_int) pa_nil)) (pg_name (i := 2) sc__law_changed.nd rfl (Or.inl rfl)) (pss_cons (ps_set (i := 1) sc__law_changed.nd rfl (Or.inl rfl) (pe_op op_fdiv (pv 1) pe_int))
      (pss_one (ps_if (pt_cmpR op_gt (pe_callB WP.c_len (by rfl) B.b_len (by decide +kernel) (WP.pa_consN (pv 0) pa_nil)) pe_int (nomark _)) (pss_cons (ps_set (i := 3) sc__law_changed.nd rfl (Or.inl rfl) (pe_op op_mod (pv 1) (pe_callB WP.c_len (by rfl) B.b_len (by decide +kernel) (WP.pa_consN (pv 0) pa_nil))))
      (pss_cons (ps_set (i := 4) sc__law_changed.nd rfl (Or.inl rfl) (pe_op op_mod (pe_op op_fdiv (pv 1) pe_int) pe_int))
      (Evl.pss_cut (ps_if (pt_cmpR op_eq (pv 4) pe_int (nomark _)) (pss_one (ps_set (i := 0) sc__law_changed.nd rfl (Or.inl rfl) (pe_op WP.op_addS (pe_slice sl_str (pv 0) po_none (po_some (pv 3))) (pe_slice sl_str (pv 0) (po_some (pe_op op_add (pv 3) pe_int)) po_none)))) (pss_one (ps_if (pt_cmpR op_eq (pv 4) pe_int (nomark _)) (pss_one (ps_set (i := 0) sc__law_changed.nd rfl (Or.inl rfl) (pe_op WP.op_addS (pe_op WP.op_addS (pe_slice sl_str (pv 0) po_none (po_some (pv 3))) (pe_slice sl_str (pv 0) (po_some (pv 3)) (po_some (pe_op op_add (pv 3) pe_int)))) (pe_slice sl_str (pv 0) (po_some (pv 3)) po_none)))) (pss_one (ps_set (i := 0) sc__law_changed.nd rfl (Or.inl rfl) (pe_op WP.op_addS (pe_op WP.op_addS (pe_slice sl_str (pv 0) po_none (po_some (pv 3))) (pe_ix ix_str (WP.pe_strL [48, 48, 49, 57, 46, 45, 43, 32, 97] (by decide +kernel)) (pe_op op_mod (pe_op op_fdiv (pv 1) pe_int) pe_int) (fun _ _ => rfl))) (pe_slice sl_str (pv 0) (po_some (pe_op op_add (pv 3) pe_int)) po_none)))))))
      (pss_one (ps_set (i := 1) sc__law_changed.nd rfl (Or.inl rfl) (pe_op op_fdiv (pv 1) pe_int)))))) pss_nil))))
      (pss_one (ps_ret (pv 0)))), ?_⟩
    k_updF
    refine WP.iC (by decide) ?_
    have q0 := Int.emod_nonneg r0 (show (3 : Int) ≠ 0 by decide)
    have q1 := Int.emod_lt_of_pos r0 (show (0 : Int) < 3 by decide)
    refine ⟨_, rfl, by omega, by omega, for_range (lo := 0) (n := _) (fun i σ' H' => H' = H ∧ ∃ (l : List Nat) (r : Int) (z1 z2 z3 : Option V), σ' = [some (.str (SX.S l)), some (.int r), z1, z2, z3] ∧ l.length ≤ l0.length + i ∧ ∀ c ∈ l, c < 128) ⟨rfl, l0, r0, none, none, none, rfl, by omega, ok⟩ ?_ ?_⟩
    rotate_left
    · rintro σ' H' ⟨rfl, l, r, z1, z2, z3, rfl, hle, hok⟩
      k_updF
      exact k l (by omega) hok
    rintro i σ' H' hi ⟨rfl, l, r, z1, z2, z3, rfl, hle, hok⟩
    have hz : l.length ≤ sizeLine := by rw [sizeLine_eq]; omega
    k_updF
    refine WP.iC ⟨by decide, by decide⟩ ?_
    k_updF
    refine WP.lenS' hz ?_
    k_updF
    refine WP.br (fun c => ?_) (fun c => ?_)
    rotate_left
    · k_updF
      exact ⟨rfl, l, _, _, _, _, rfl, by omega, hok⟩
    k_updF
    refine WP.lenS' hz ?_
    refine WP.iC (by omega) ?_
    generalize r / 3 = r1
    have a0 := Int.emod_nonneg r1 (show (l.length : Int) ≠ 0 by omega)
    have a1 := Int.emod_lt_of_pos r1 (show (0 : Int) < (l.length : Int) by omega)
    obtain ⟨a, ha⟩ : ∃ a : Nat, r1 % (l.length : Int) = (a : Int) := ⟨(r1 % (l.length : Int)).toNat, by omega⟩
    rw [ha] at a0 a1 ⊢
    k_updF
    refine WP.iC ⟨by decide, by decide⟩ ?_
    k_updF
    refine WP.iC (by decide) ?_
    k_updF
    have fin : ∀ l' : List Nat, l'.length ≤ l.length + 1 → (∀ c ∈ l', c < 128) → l'.length ≤ l0.length + (i + 1) ∧ ∀ c ∈ l', c < 128 := fun l' h1 h2 => ⟨by omega, h2⟩
    refine WP.cut (fun σ' H2 => H2 = H' ∧ ∃ (l' : List Nat) (z : Option V), σ' = [some (.str (SX.S l')), some (.int r1), some (.int (0 + (i : Int))), some (.int (a : Int)), some (.int (r1 / 40 % 3))] ∧ l'.length ≤ l.length + 1 ∧ ∀ c ∈ l', c < 128) ?_ ?_
    rotate_left
    · rintro σ' H2 ⟨rfl, l', z, rfl, h1, h2⟩
      k_updF
      refine WP.iC ⟨by decide, by decide⟩ ?_
      k_updF
      exact ⟨rfl, l', _, _, _, _, rfl, by omega, h2⟩
    k_updF
    refine WP.br (fun c1 => ?_) (fun c1 => ?_)
    · k_updF
      refine WP.slTo (by omega) hz ?_
      k_updF
      refine WP.slFrom (by omega) hz ?_
      refine WP.catS ?_ (by rw [sizeLine_eq, List.length_take, List.length_drop]; omega)
      k_updF
      refine ⟨rfl, _, none, rfl, ?_, fun c hc => ?_⟩
      · rw [List.length_append, List.length_take, List.length_drop]; omega
      rcases List.mem_append.mp hc with e | e
      · exact hok c (List.mem_of_mem_take e)
      · exact hok c (List.mem_of_mem_drop e)
    k_updF
    refine WP.br (fun c2 => ?_) (fun c2 => ?_)
    · k_updF
      refine WP.slTo (by omega) hz ?_
      k_updF
      refine WP.slBoth (by omega) (by omega) hz ?_
      refine WP.catS ?_ (by rw [sizeLine_eq, List.length_take, List.length_take, List.length_drop]; omega)
      k_updF
      refine WP.slFrom (by omega) hz ?_
      refine WP.catS ?_ (by rw [sizeLine_eq, List.length_append, List.length_take, List.length_take, List.length_drop]; omega)
      k_updF
      refine ⟨rfl, _, none, rfl, ?_, fun c hc => ?_⟩
      · rw [List.length_append, List.length_append, List.length_take, List.length_take, List.length_drop]; omega
      rcases List.mem_append.mp hc with e | e
      · rcases List.mem_append.mp e with e | e
        · exact hok c (List.mem_of_mem_take e)
        · exact hok c (List.mem_of_mem_drop (List.mem_of_mem_take e))
      · exact hok c (List.mem_of_mem_drop e)
    k_updF
    refine WP.slTo (by omega) hz ?_
    k_updF
    refine WP.iC ⟨by decide, by decide⟩ ?_
    k_updF
    refine WP.iC (by decide) ?_
    have o0 := Int.emod_nonneg (r1 / 120) (show (9 : Int) ≠ 0 by decide)
    have o1 := Int.emod_lt_of_pos (r1 / 120) (show (0 : Int) < 9 by decide)
    obtain ⟨j, hj⟩ : ∃ j : Nat, r1 / 120 % 9 = (j : Int) := ⟨(r1 / 120 % 9).toNat, by omega⟩
    rw [hj] at o0 o1 ⊢
    have hj2 : j < ([48, 48, 49, 57, 46, 45, 43, 32, 97] : List Nat).length := by show j < 9; omega
    refine WP.ixS1 (atI_nat (List.getElem?_eq_getElem hj2)) (by rw [sizeLine_eq]; decide) ?_
    have hcj := (show ∀ c ∈ ([48, 48, 49, 57, 46, 45, 43, 32, 97] : List Nat), c < 128 by decide) _ (List.getElem_mem hj2)
    generalize ([48, 48, 49, 57, 46, 45, 43, 32, 97] : List Nat)[j] = cj at hcj ⊢
    refine WP.catS ?_ (by rw [sizeLine_eq, List.length_take]; show _ + 1 ≤ _; omega)
    k_updF
    refine WP.slFrom (by omega) hz ?_
    refine WP.catS ?_ (by rw [sizeLine_eq, List.length_append, List.length_take, List.length_drop]; show _ + 1 + _ ≤ _; omega)
    k_updF
    refine ⟨rfl, _, none, rfl, ?_, fun c hc => ?_⟩
    · rw [List.length_append, List.length_append, List.length_take, List.length_drop]; show _ + 1 + _ ≤ _; omega
    rcases List.mem_append.mp hc with e | e
    · rcases List.mem_append.mp e with e | e
      · exact hok c (List.mem_of_mem_take e)
      · rw [List.mem_singleton.mp e]; exact hcj
    · exact hok c (List.mem_of_mem_drop e)
end
abbrev s__law_cell : Stmt := top 17
abbrev N__law_cell : List Str := ["script", "k"]
theorem sc__law_cell : FnScope N__law_cell ["script", "k"] (defScope s__law_cell) := ⟨rfl, rfl, rfl, by decide +kernel, rfl, by decide +kernel, by decide +kernel⟩
def sp__law_cell (K : PySem.W.Frag) (mg : WP.MG) : Sp := fun vs H Q _ => ∃ (a : Addr) (ns : List Int) (k : Int), vs = [.ref a, .int k] ∧ SqL K H a (ns.map V.int) ∧ 0 ≤ k ∧ ∀ c : Int, Q (.int c) H
section
variable {P : Program} {w : World} {K : PySem.W.Frag} {mg : Str → Option Value} {base : Heap}
theorem ok__law_cell {f : Addr} {fd : FuncData} (F : Fun K "_law_cell" "_law_cell" s__law_cell f fd) (B : Blt w K mg)  : FnOk P w K mg base CX0 1 f fd ["script", "k"] (sp__law_cell K mg) := by
  refine F.ok sc__law_cell (fun vs H Q E h => ?_) (fun cdv A outer s H vs Q E hr h => ?_)
  · first | (obtain ⟨_, rfl, _⟩ := h; rfl) | (obtain ⟨_, _, rfl, _⟩ := h; rfl) | (obtain ⟨_, _, _, rfl, _⟩ := h; rfl) | (obtain ⟨_, _, _, _, rfl, _⟩ := h; rfl) | (obtain ⟨_, _, _, _, _, rfl, _⟩ := h; rfl) | (obtain ⟨_, _, _, _, _, _, rfl, _⟩ := h; rfl) | (obtain ⟨_, _, _, _, _, _, _, rfl, _⟩ := h; rfl) | (obtain ⟨_, _, _, _, _, _, _, _, rfl, _⟩ := h; rfl) | (obtain ⟨rfl, _⟩ := h; rfl)
  · obtain ⟨a, ns, i, rfl, ha, hi, k⟩ := h
    refine ⟨_, (pss_cons (ps_if (pt_cmpR op_lt (pv 1) (pe_callB WP.c_len (by rfl) B.b_len (by decide +kernel) (WP.pa_consN (pv 0) pa_nil)) (nomark _)) (pss_one (ps_ret (pe_callTy WP.c_int1 (by rfl) B.b_int (by decide +kernel) (WP.pa_consN (pe_ix ix_list (pv 0) (pv 1) (fun _ _ => rfl)) pa_nil)))) pss_nil)
      (pss_one (ps_ret pe_int))), ?_⟩
    k_updF
    refine WP.lenL ha ?_
    k_updF
    refine WP.br (fun c => ?_) (fun c => ?_)
    · k_updF
      rw [List.length_map] at c
      refine WP.ixL ha (WP.at_ints hi c) ?_
      k_updF
      exact WP.intI (k _)
    · k_updF
      exact k 0
end
abbrev s__law_text : Stmt := top 21
abbrev N__law_text : List Str := ["value", "figures", "k", "cut", "text"]
theorem sc__law_text : FnScope N__law_text ["value"] (defScope s__law_text) := ⟨rfl, rfl, rfl, by decide +kernel, rfl, by decide +kernel, by decide +kernel⟩
def sp__law_text (K : PySem.W.Frag) (mg : WP.MG) : Sp := fun vs H Q _ => ∃ (p : Addr) (u : Int) (s : Nat), vs = [.ref p] ∧ SqT K H p (WP.dv u s) ∧ u.natAbs < 10 ^ 570 ∧ s ≤ 1000 ∧ Q (.str (SX.S (dtext u s))) H
section
variable {P : Program} {w : World} {K : PySem.W.Frag} {mg : Str → Option Value} {base : Heap}
theorem ok__law_text {f : Addr} {fd : FuncData} (F : Fun K "_law_text" "_law_text" s__law_text f fd) (B : Blt w K mg)  : FnOk P w K mg base CX0 1 f fd ["value"] (sp__law_text K mg) := by
  refine F.ok sc__law_text (fun vs H Q E h => ?_) (fun cdv A outer s H vs Q E hr h => ?_)
  · first | (obtain ⟨_, rfl, _⟩ := h; rfl) | (obtain ⟨_, _, rfl, _⟩ := h; rfl) | (obtain ⟨_, _, _, rfl, _⟩ := h; rfl) | (obtain ⟨_, _, _, _, rfl, _⟩ := h; rfl) | (obtain ⟨_, _, _, _, _, rfl, _⟩ := h; rfl) | (obtain ⟨_, _, _, _, _, _, rfl, _⟩ := h; rfl) | (obtain ⟨_, _, _, _, _, _, _, rfl, _⟩ := h; rfl) | (obtain ⟨_, _, _, _, _, _, _, _, rfl, _⟩ := h; rfl) | (obtain ⟨rfl, _⟩ := h; rfl)
  · obtain ⟨p, u, s', rfl, hp, hu, hs, k⟩ := h
    refine ⟨_, (pss_cons (ps_set (i := 1) sc__law_text.nd rfl (Or.inl rfl) (pe_callTy WP.c_str (by rfl) B.b_str (by decide +kernel) (WP.pa_consN (pe_callB WP.c_abs (by rfl) B.b_abs (by decide +kernel) (WP.pa_consN (pe_ix ix_tup (pv 0) pe_int (fun _ _ => rfl)) pa_nil)) pa_nil)))
      (pss_cons (ps_for PassesOwn.never rfl (pi_range1 rfl B.b_range (WP.pa_consN (pe_op op_add (pe_ix ix_tup (pv 0) pe_int (fun _ _ => rfl)) pe_int) pa_nil)) (pg_name (i := 2) sc__law_text.nd rfl (Or.inl rfl)) (pss_one (ps_if (pt_cmpR op_lt (pe_callB WP.c_len (by rfl) B.b_len (by decide +kernel) (WP.pa_consN (pv 1) pa_nil)) (pe_op op_add (pe_ix ix_tup (pv 0) pe_int (fun _ _ => rfl)) pe_int) (nomark _)) (pss_one (ps_set (i := 1) sc__law_text.nd rfl (Or.inl rfl) (pe_op WP.op_addS (WP.pe_strL [48] (by decide +kernel)) (pv 1)))) pss_nil)))
      (pss_cons (ps_set (i := 3) sc__law_text.nd rfl (Or.inl rfl) (pe_op op_sub (pe_callB WP.c_len (by rfl) B.b_len (by decide +kernel) (WP.pa_consN (pv 1) pa_nil)) (pe_ix ix_tup (pv 0) pe_int (fun _ _ => rfl))))
      (pss_cons (ps_set (i := 4) sc__law_text.nd rfl (Or.inl rfl) (pe_slice sl_str (pv 1) po_none (po_some (pv 3))))
      (Evl.pss_cut (ps_if (pt_cmpR op_gt (pe_ix ix_tup (pv 0) pe_int (fun _ _ => rfl)) pe_int (nomark _)) (pss_one (ps_set (i := 4) sc__law_text.nd rfl (Or.inl rfl) (pe_op WP.op_addS (pe_op WP.op_addS (pv 4) (WP.pe_strL [46] (by decide +kernel))) (pe_slice sl_str (pv 1) (po_some (pv 3)) po_none)))) pss_nil)
      (pss_one (ps_ret (pe_ifExp (pt_cmpR op_lt (pe_ix ix_tup (pv 0) pe_int (fun _ _ => rfl)) pe_int (nomark _)) (pe_op WP.op_addS (WP.pe_strL [45] (by decide +kernel)) (pv 4)) (pv 4))))))))), ?_⟩
    have hl := TL.numL_len (k := 570) (by decide) hu
    have fl := dfigs_len (s := s') hu
    k_updF
    refine WP.ixT hp WP.at0 ?_
    k_updF
    refine WP.absI ?_
    k_updF
    refine WP.strN (WP.log2_lt (by decide) (Nat.lt_trans hu (by decide +kernel))) ?_
    k_updF
    refine WP.ixT hp WP.at1 ?_
    k_updF
    generalize hN : TL.numL u.natAbs = N at *
    refine ⟨_, rfl, by omega, by omega, for_range (lo := 0) (n := _) (fun i σ' H' => H' = H ∧ ∃ z, σ' = [some (.ref p), some (.str (SX.S (List.replicate (min i (s' + 1 - N.length)) 48 ++ N))), z, none, none]) ⟨rfl, none, by rw [Nat.zero_min]; rfl⟩ ?_ ?_⟩
    · rintro i σ' H' hi ⟨rfl, z, rfl⟩
      have hL : (List.replicate (min i (s' + 1 - N.length)) 48 ++ N).length = min i (s' + 1 - N.length) + N.length := by rw [List.length_append, List.length_replicate]
      k_updF
      refine WP.lenS' (by rw [sizeLine_eq, hL]; omega) ?_
      rw [hL]
      k_updF
      refine WP.ixT hp WP.at1 ?_
      k_updF
      refine WP.br (fun c => ?_) (fun c => ?_)
      · k_updF
        refine WP.catS ?_ (by rw [sizeLine_eq, hL]; show 1 + _ ≤ _; omega)
        k_updF
        refine ⟨rfl, some (.int (0 + (i : Int))), ?_⟩
        rw [show min (i + 1) (s' + 1 - N.length) = min i (s' + 1 - N.length) + 1 by omega, List.replicate_succ]
        rfl
      · k_updF
        refine ⟨rfl, some (.int (0 + (i : Int))), ?_⟩
        rw [show min (i + 1) (s' + 1 - N.length) = min i (s' + 1 - N.length) by omega]
        rfl
    rintro σ' H' ⟨rfl, z, rfl⟩
    have eD : dtext u s' = (if u < 0 then [45] else []) ++ (if s' = 0 then dfigs u s' else (dfigs u s').take ((dfigs u s').length - s') ++ [46] ++ (dfigs u s').drop ((dfigs u s').length - s')) := rfl
    rw [eD] at k
    have eF : List.replicate (min ((s' : Int) + 1).toNat (s' + 1 - N.length)) 48 ++ N = dfigs u s' := by
      unfold dfigs
      rw [hN, show min ((s' : Int) + 1).toNat (s' + 1 - N.length) = s' + 1 - N.length by omega]
    rw [eF]
    generalize dfigs u s' = F at k fl ⊢
    k_updF
    refine WP.lenS' (by rw [sizeLine_eq]; omega) ?_
    k_updF
    refine WP.ixT hp WP.at1 ?_
    k_updF
    refine WP.slTo (by omega) (by rw [sizeLine_eq]; omega) ?_
    rw [show ((F.length : Int) - (s' : Int)).toNat = F.length - s' by omega]
    k_updF
    refine WP.cut (fun σ' H2 => H2 = H' ∧ σ' = [some (.ref p), some (.str (SX.S F)), z, some (.int ((F.length : Int) - (s' : Int))), some (.str (SX.S (if s' = 0 then F else F.take (F.length - s') ++ [46] ++ F.drop (F.length - s'))))]) ?_ ?_
    · k_updF
      refine WP.ixT hp WP.at1 ?_
      k_updF
      refine WP.br (fun c => ?_) (fun c => ?_)
      · rw [if_neg (by omega)]
        k_updF
        refine WP.catS ?_ (by rw [sizeLine_eq, List.length_take]; show _ + 1 ≤ _; omega)
        k_updF
        refine WP.slFrom (by omega) (by rw [sizeLine_eq]; omega) ?_
        rw [show ((F.length : Int) - (s' : Int)).toNat = F.length - s' by omega]
        refine WP.catS ?_ (by rw [sizeLine_eq, List.length_append, List.length_take, List.length_drop]; show _ + 1 + _ ≤ _; omega)
        k_updF
        exact ⟨rfl, rfl⟩
      · rw [if_pos (by omega)]
        k_updF
        refine ⟨rfl, ?_⟩
        rw [show F.length - s' = F.length by omega, List.take_length]
        rfl
    rintro σ' H2 ⟨rfl, rfl⟩
    have lT : (if s' = 0 then F else F.take (F.length - s') ++ [46] ++ F.drop (F.length - s') : List Nat).length ≤ 10000 := by
      split
      · omega
      · rw [List.length_append, List.length_append, List.length_take, List.length_drop]; show _ + 1 + _ ≤ _; omega
    generalize (if s' = 0 then F else F.take (F.length - s') ++ [46] ++ F.drop (F.length - s') : List Nat) = T at k lT ⊢
    k_updF
    refine WP.ixT hp WP.at0 ?_
    k_updF
    refine WP.br (fun c => ?_) (fun c => ?_)
    · rw [if_pos c] at k
      k_updF
      refine WP.catS ?_ (by rw [sizeLine_eq]; show 1 + _ ≤ _; omega)
      exact k
    · rw [if_neg c] at k
      k_updF
      exact k
end
abbrev s_normal : Stmt := top 11
abbrev N_normal : List Str := ["units", "scale"]
theorem sc_normal : FnScope N_normal ["units", "scale"] (defScope s_normal) := ⟨rfl, rfl, rfl, by decide +kernel, rfl, by decide +kernel, by decide +kernel⟩
def sp_normal (K : PySem.W.Frag) (mg : WP.MG) : Sp := fun vs H Q _ => ∃ u s : Int, vs = [.int u, .int s] ∧ 0 ≤ s ∧ WP.RetT (WP.dv (MD.nrm u s.toNat).1 (MD.nrm u s.toNat).2) H Q
section
variable {P : Program} {w : World} {K : PySem.W.Frag} {mg : Str → Option Value} {base : Heap}
theorem ok_normal {f : Addr} {fd : FuncData} (F : Fun K "normal" "normal" s_normal f fd) (B : Blt w K mg)  : FnOk P w K mg base CX0 1 f fd ["units", "scale"] (sp_normal K mg) := by
  refine F.ok sc_normal (fun vs H Q E h => ?_) (fun cdv A outer s H vs Q E hr h => ?_)
  · first | (obtain ⟨_, rfl, _⟩ := h; rfl) | (obtain ⟨_, _, rfl, _⟩ := h; rfl) | (obtain ⟨_, _, _, rfl, _⟩ := h; rfl) | (obtain ⟨_, _, _, _, rfl, _⟩ := h; rfl) | (obtain ⟨_, _, _, _, _, rfl, _⟩ := h; rfl) | (obtain ⟨_, _, _, _, _, _, rfl, _⟩ := h; rfl) | (obtain ⟨_, _, _, _, _, _, _, rfl, _⟩ := h; rfl) | (obtain ⟨_, _, _, _, _, _, _, _, rfl, _⟩ := h; rfl) | (obtain ⟨rfl, _⟩ := h; rfl)
  · obtain ⟨u, s', rfl, hs, k⟩ := h
    refine ⟨_, (pss_cons (ps_while PassesOwn.never (PW.pt (pw_and (pt_cmpR op_gt (pv 1) pe_int (nomark _)) (pw_and1 (pt_cmpR op_eq (pe_op op_mod (pv 0) pe_int) pe_int (nomark _))))) (pss_cons (ps_set (i := 0) sc_normal.nd rfl (Or.inl rfl) (pe_op op_fdiv (pv 0) pe_int))
      (pss_one (ps_set (i := 1) sc_normal.nd rfl (Or.inl rfl) (pe_op op_sub (pv 1) pe_int)))))
      (pss_one (ps_ret (pe_tup (WP.pa_consN (pv 0) (WP.pa_consN (pv 1) pa_nil)))))), ?_⟩
    k_updF
    refine ⟨fun m σ H' => ∃ (a : Int) (n : Nat), σ = [some (.int a), some (.int (n : Int))] ∧ H' = H ∧ n = m ∧ MD.nrm a n = MD.nrm u s'.toNat, ⟨s'.toNat, u, s'.toNat, by rw [Int.toNat_of_nonneg hs]; rfl, rfl, rfl, rfl⟩, ?_⟩
    rintro m σ H' ⟨a, n, rfl, rfl, rfl, e⟩
    k_updF
    refine WP.br (fun c => ?_) (fun c => ?_)
    · k_updF
      refine WP.iC (show (0 : Int) < 10 by decide) ?_
      k_updF
      obtain ⟨n', rfl⟩ : ∃ n', n = n' + 1 := ⟨n - 1, by omega⟩
      refine WP.br (fun z => ?_) (fun z => ?_)
      · refine ⟨fun σ' H2 => ∃ m', m' < n' + 1 ∧ ∃ (a : Int) (n : Nat), σ' = [some (.int a), some (.int (n : Int))] ∧ H2 = H' ∧ n = m' ∧ MD.nrm a n = MD.nrm u s'.toNat, fun _ _ x => x, ?_⟩
        k_updF
        refine WP.iC ⟨by decide, by decide⟩ ?_
        k_updF
        refine ⟨n', by omega, a / 10, n', ?_, rfl, rfl, ?_⟩
        · rw [show ((n' + 1 : Nat) : Int) - 1 = (n' : Int) by omega]; rfl
        · rw [← e]
          show _ = if a % 10 = 0 then _ else _
          rw [if_pos z]
      · k_updF
        refine ⟨by show 2 ≤ sizeLine; exact WP.sz2, ?_⟩
        rw [← e, MD.nrm_self (.inr z)] at k
        exact k.new (Same.refl _)
    · k_updF
      obtain rfl : n = 0 := by omega
      refine WP.brF rfl ?_
      k_updF
      refine ⟨WP.sz2, ?_⟩
      rw [← e] at k
      exact k.new (Same.refl _)
end
abbrev s__has_only : Stmt := top 7
abbrev N__has_only : List Str := ["text", "characters"]
theorem sc__has_only : FnScope N__has_only ["text", "characters"] (defScope s__has_only) := ⟨rfl, rfl, rfl, by decide +kernel, rfl, by decide +kernel, by decide +kernel⟩
def sp__has_only (K : PySem.W.Frag) (mg : WP.MG) : Sp := fun vs H Q _ => ∃ l cs : List Nat, vs = [.str (SX.S l), .str (SX.S cs)] ∧ GxR.TabG H (WP.tbl K "_has_only") ∧ WP.MetV (.bl (MW.allIn l cs)) H Q
section
variable {P : Program} {w : World} {K : PySem.W.Frag} {mg : Str → Option Value} {base : Heap}
theorem ok__has_only {f : Addr} {fd : FuncData} (F : WP.FunC K "_has_only" "_has_only" s__has_only f fd (WP.cod K "_has_only")) (T : GxR.TabB base mg (WP.cod K "_has_only") (WP.tbl K "_has_only")) (B : Blt w K mg)  : FnOk P w K mg base CX0 1 f fd ["text", "characters"] (sp__has_only K mg) := by
  refine F.ok sc__has_only (fun vs H Q E h => ?_) (fun A outer s H vs Q E hr h => ?_)
  · first | (obtain ⟨_, rfl, _⟩ := h; rfl) | (obtain ⟨_, _, rfl, _⟩ := h; rfl) | (obtain ⟨_, _, _, rfl, _⟩ := h; rfl) | (obtain ⟨_, _, _, _, rfl, _⟩ := h; rfl) | (obtain ⟨_, _, _, _, _, rfl, _⟩ := h; rfl) | (obtain ⟨_, _, _, _, _, _, rfl, _⟩ := h; rfl) | (obtain ⟨_, _, _, _, _, _, _, rfl, _⟩ := h; rfl) | (obtain ⟨_, _, _, _, _, _, _, _, rfl, _⟩ := h; rfl) | (obtain ⟨rfl, _⟩ := h; rfl)
  · obtain ⟨l, cs, rfl, hT, k⟩ := h
    refine ⟨_, (pss_one (ps_ret (WP.pe_allC (i := 1) hr rfl B.b_all rfl T rfl (WP.gsc_by (sc := defScope s__has_only) (by decide +kernel)) (pv 0) rfl rfl (by decide) rfl (fun _ => rfl)))), ?_⟩
    k_updF
    refine WP.var rfl ⟨hT, SX.S l, SX.S cs, rfl, rfl, fun H2 h2 => ?_⟩
    exact k _ (.tab hT h2)
end
abbrev s_are_figures : Stmt := top 6
abbrev N_are_figures : List Str := ["value"]
theorem sc_are_figures : FnScope N_are_figures ["value"] (defScope s_are_figures) := ⟨rfl, rfl, rfl, by decide +kernel, rfl, by decide +kernel, by decide +kernel⟩
def sp_are_figures (K : PySem.W.Frag) (mg : WP.MG) : Sp := fun vs H Q _ => ∃ v : V, vs = [v] ∧ MW.Wd K H v ∧ GxR.TabG H (WP.tbl K "_has_only") ∧ WP.MetV (.bl (MW.onS MW.figs v)) H Q
section
variable {P : Program} {w : World} {K : PySem.W.Frag} {mg : Str → Option Value} {base : Heap}
theorem ok_are_figures {f : Addr} {fd : FuncData} (F : Fun K "are_figures" "are_figures" s_are_figures f fd) (B : Blt w K mg) (c__has_only : WP.Callee P w K mg base CX0 1 "_has_only" ["text", "characters"] (sp__has_only K mg)) : FnOk P w K mg base CX0 2 f fd ["value"] (sp_are_figures K mg) := by
  refine F.ok sc_are_figures (fun vs H Q E h => ?_) (fun cdv A outer s H vs Q E hr h => ?_)
  · first | (obtain ⟨_, rfl, _⟩ := h; rfl) | (obtain ⟨_, _, rfl, _⟩ := h; rfl) | (obtain ⟨_, _, _, rfl, _⟩ := h; rfl) | (obtain ⟨_, _, _, _, rfl, _⟩ := h; rfl) | (obtain ⟨_, _, _, _, _, rfl, _⟩ := h; rfl) | (obtain ⟨_, _, _, _, _, _, rfl, _⟩ := h; rfl) | (obtain ⟨_, _, _, _, _, _, _, rfl, _⟩ := h; rfl) | (obtain ⟨_, _, _, _, _, _, _, _, rfl, _⟩ := h; rfl) | (obtain ⟨rfl, _⟩ := h; rfl)
  · obtain ⟨v, rfl, hw, hT, k⟩ := h
    refine ⟨_, (pss_one (ps_ret (pe_and (pe_callB call_isi (by rfl) B.b_isinstance (by decide +kernel) (pa_cons (pv 0) (pa_cons (pe_bltn (v := .ty "str") rfl B.b_str (by decide +kernel) rfl) pa_nil))) (pe_and (pe_cmpR op_ne (pv 0) (WP.pe_strL [] (by decide +kernel)) (nomark _)) (pe_one (WP.pe_callC c__has_only hr rfl pass0 (WP.pa_consN (pv 0) (WP.pa_consN (WP.pe_const rfl B.c_FIGURES) pa_nil)))))))), ?_⟩
    k_updF
    refine hw.isStr ?_
    refine ⟨_, rfl, ?_⟩
    rcases hw.cases with ⟨l, rfl, hl, ok⟩ | ⟨e1, e2⟩
    · refine WP.brT rfl ?_
      k_updF
      rw [MW.onS_S] at k
      refine WP.brN (fun c => ?_) (fun c => ?_)
      · k_updF
        refine ⟨l, MW.FIG, rfl, hT, ?_⟩
        have e : MW.figs l = MW.allIn l MW.FIG := by unfold MW.figs; rw [decide_eq_false c]; rfl
        rw [e] at k
        exact k
      · have e : MW.figs l = false := by unfold MW.figs; rw [decide_eq_true c]; rfl
        rw [e] at k
        exact k _ (.refl _)
    · rw [e1]
      rw [e2] at k
      refine WP.brF rfl ?_
      exact k _ (.refl _)
end
abbrev s__is_whole : Stmt := top 15
abbrev N__is_whole : List Str := ["text"]
theorem sc__is_whole : FnScope N__is_whole ["text"] (defScope s__is_whole) := ⟨rfl, rfl, rfl, by decide +kernel, rfl, by decide +kernel, by decide +kernel⟩
def sp__is_whole (K : PySem.W.Frag) (mg : WP.MG) : Sp := fun vs H Q _ => ∃ l : List Nat, vs = [.str (SX.S l)] ∧ l.length ≤ 1000 ∧ (∀ c ∈ l, c < 128) ∧ GxR.TabG H (WP.tbl K "_has_only") ∧ WP.MetV (.bl (MT.whole l)) H Q
section
variable {P : Program} {w : World} {K : PySem.W.Frag} {mg : Str → Option Value} {base : Heap}
theorem ok__is_whole {f : Addr} {fd : FuncData} (F : Fun K "_is_whole" "_is_whole" s__is_whole f fd) (B : Blt w K mg) (c_are_figures : WP.Callee P w K mg base CX0 2 "are_figures" ["value"] (sp_are_figures K mg)) : FnOk P w K mg base CX0 3 f fd ["text"] (sp__is_whole K mg) := by
  refine F.ok sc__is_whole (fun vs H Q E h => ?_) (fun cdv A outer s H vs Q E hr h => ?_)
  · first | (obtain ⟨_, rfl, _⟩ := h; rfl) | (obtain ⟨_, _, rfl, _⟩ := h; rfl) | (obtain ⟨_, _, _, rfl, _⟩ := h; rfl) | (obtain ⟨_, _, _, _, rfl, _⟩ := h; rfl) | (obtain ⟨_, _, _, _, _, rfl, _⟩ := h; rfl) | (obtain ⟨_, _, _, _, _, _, rfl, _⟩ := h; rfl) | (obtain ⟨_, _, _, _, _, _, _, rfl, _⟩ := h; rfl) | (obtain ⟨_, _, _, _, _, _, _, _, rfl, _⟩ := h; rfl) | (obtain ⟨rfl, _⟩ := h; rfl)
  · obtain ⟨l, rfl, hl, ok, hT, k⟩ := h
    refine ⟨_, (pss_one (ps_ret (pe_and (WP.pe_callC c_are_figures hr rfl pass0 (WP.pa_consN (pv 0) pa_nil)) (pe_one (pe_or (pe_cmpR op_eq (pv 0) (WP.pe_strL [48] (by decide +kernel)) (nomark _)) (pe_one (pe_cmpR op_ne (pe_ix ix_str (pv 0) pe_int (fun _ _ => rfl)) (WP.pe_strL [48] (by decide +kernel)) (nomark _)))))))), ?_⟩
    k_updF
    refine ⟨_, rfl, .str hl ok, hT, fun H1 e1 => ?_⟩
    rw [MW.onS_S]
    k_updF
    unfold MT.whole at k
    cases hf : MW.figs l with
    | false =>
      refine WP.brF rfl ?_
      rw [hf] at k
      exact k _ e1
    | true =>
      refine WP.brT rfl ?_
      rw [hf, Bool.true_and] at k
      k_updF
      refine WP.br (fun c => ?_) (fun c => ?_)
      · rw [decide_eq_true c] at k
        exact k _ e1
      · rw [decide_eq_false c, Bool.false_or] at k
        k_updF
        have hne := (MW.figs_all hf).1
        have hp := List.length_pos_iff.mpr hne
        refine WP.ixS1 (MW.ends hp).1 (by rw [sizeLine_eq]; omega) ?_
        k_updF
        generalize l.headD 0 = x at k
        rw [show decide ([x] = [48]) = decide (x = 48) by congr 1; exact propext ⟨fun z => by simpa using z, fun z => by rw [z]⟩]
        exact k _ e1
end
abbrev s_parse : Stmt := top 14
abbrev N_parse : List Str := ["text", "figures", "whole", "point", "fraction", "units"]
theorem sc_parse : FnScope N_parse ["text"] (defScope s_parse) := ⟨rfl, rfl, rfl, by decide +kernel, rfl, by decide +kernel, by decide +kernel⟩
def sp_parse (K : PySem.W.Frag) (mg : WP.MG) : Sp := fun vs H Q E => ∃ l : List Nat, vs = [.str (SX.S l)] ∧ l.length ≤ 1000 ∧ (∀ c ∈ l, c < 128) ∧ GxR.TabG H (WP.tbl K "_has_only") ∧
  (MT.spell l = none → ∀ H', WP.Sm H H' → E (.ref (WP.ca mg "BadDecimal")) none H') ∧ (∀ u s, MT.spell l = some (u, s) → WP.MetT (WP.dv u s) H Q)
section
variable {P : Program} {w : World} {K : PySem.W.Frag} {mg : Str → Option Value} {base : Heap}
theorem ok_parse {f : Addr} {fd : FuncData} (F : Fun K "parse" "parse" s_parse f fd) (B : Blt w K mg) (c_normal : WP.Callee P w K mg base CX0 1 "normal" ["units", "scale"] (sp_normal K mg)) (c__is_whole : WP.Callee P w K mg base CX0 3 "_is_whole" ["text"] (sp__is_whole K mg)) (c_are_figures : WP.Callee P w K mg base CX0 2 "are_figures" ["value"] (sp_are_figures K mg)) : FnOk P w K mg base (L2.CX P w) 4 f fd ["text"] (sp_parse K mg) := by
  refine F.okX sc_parse (fun vs H Q E h => ?_) (fun cdv A outer s H vs Q E hr h => ?_)
  · first | (obtain ⟨_, rfl, _⟩ := h; rfl) | (obtain ⟨_, _, rfl, _⟩ := h; rfl) | (obtain ⟨_, _, _, rfl, _⟩ := h; rfl) | (obtain ⟨_, _, _, _, rfl, _⟩ := h; rfl) | (obtain ⟨_, _, _, _, _, rfl, _⟩ := h; rfl) | (obtain ⟨_, _, _, _, _, _, rfl, _⟩ := h; rfl) | (obtain ⟨_, _, _, _, _, _, _, rfl, _⟩ := h; rfl) | (obtain ⟨_, _, _, _, _, _, _, _, rfl, _⟩ := h; rfl) | (obtain ⟨rfl, _⟩ := h; rfl)
  · obtain ⟨l, rfl, hl, ok, hT, kE, kQ⟩ := h
    refine ⟨_, (Evl.pss_cut (ps_set (i := 1) sc_parse.nd rfl (Or.inl rfl) (pe_ifExp (pt_val (pe_bm PySem.F.plainAttrs_str PySem.F.slot_str_startswith PySem.F.type_str_startswith mt_startswith (pv 0) (WP.pa_consN (WP.pe_strL [45] (by decide +kernel)) pa_nil))) (pe_slice sl_str (pv 0) (po_some pe_int) po_none) (pv 0)))
      (pss_cons (ps_asg (pe_bm PySem.F.plainAttrs_str PySem.F.slot_str_partition PySem.F.type_str_partition mt_partition (pv 1) (WP.pa_consN (WP.pe_strL [46] (by decide +kernel)) pa_nil)) (pg_tup (by rfl) (pgs_cons (pg_name (i := 2) sc_parse.nd rfl (Or.inl rfl)) (pgs_cons (pg_name (i := 3) sc_parse.nd rfl (Or.inl rfl)) (pgs_cons (pg_name (i := 4) sc_parse.nd rfl (Or.inl rfl)) pgs_nil)))))
      (pss_cons (ps_if (PW.pt (pw_or (pt_not (pt_val (WP.pe_callC c__is_whole hr rfl pass0 (WP.pa_consN (pv 2) pa_nil)))) (pw_or1 (PW.pt (pw_and (pt_cmpR op_ne (pv 3) (WP.pe_strL [] (by decide +kernel)) (nomark _)) (pw_and1 (pt_not (pt_val (WP.pe_callC c_are_figures hr rfl pass0 (WP.pa_consN (pv 4) pa_nil)))))))))) (pss_one (WP.ps_raiseC rfl (takes_of rfl rfl rfl rfl) B.e_BadDecimal (by exact rfl))) pss_nil)
      (pss_cons (ps_if (pt_cmpR op_gt (pe_op op_add (pe_callB WP.c_len (by rfl) B.b_len (by decide +kernel) (WP.pa_consN (pv 2) pa_nil)) (pe_callB WP.c_len (by rfl) B.b_len (by decide +kernel) (WP.pa_consN (pv 4) pa_nil))) (WP.pe_const rfl B.c_MOST_DIGITS) (nomark _)) (pss_one (WP.ps_raiseC rfl (takes_of rfl rfl rfl rfl) B.e_BadDecimal (by exact rfl))) pss_nil)
      (pss_cons (ps_set (i := 5) sc_parse.nd rfl (Or.inl rfl) (pe_callTy WP.c_intS (by rfl) B.b_int (by decide +kernel) (WP.pa_consN (pe_op WP.op_addS (pv 2) (pv 4)) pa_nil)))
      (pss_one (ps_ret (WP.pe_callC c_normal hr rfl pass0 (WP.pa_consN (pe_ifExp (pt_cmpR op_eq (pv 1) (pv 0) (nomark _)) (pv 5) (pe_un un_neg (pv 5))) (WP.pa_consN (pe_callB WP.c_len (by rfl) B.b_len (by decide +kernel) (WP.pa_consN (pv 4) pa_nil)) pa_nil)))))))))), ?_⟩
    have hz : l.length ≤ sizeLine := by rw [sizeLine_eq]; omega
    refine WP.cut (fun σ' H' => H' = H ∧ σ' = [some (.str (SX.S l)), some (.str (SX.S (MT.bodyOf l))), none, none, none, none]) ?_ ?_
    · k_updF
      refine ⟨_, _, rfl, rfl, ?_⟩
      rw [MT.starts_S]
      k_updF
      refine WP.br (fun c => ?_) (fun c => ?_)
      · k_updF
        refine WP.slFrom (by decide) hz ?_
        k_updF
        refine ⟨rfl, ?_⟩
        rw [show MT.bodyOf l = l.drop (1 : Int).toNat by unfold MT.bodyOf MT.isNeg; rw [if_pos (decide_eq_true c)]; rfl]
        rfl
      · k_updF
        refine ⟨rfl, ?_⟩
        rw [show MT.bodyOf l = l by unfold MT.bodyOf MT.isNeg; rw [if_neg (by rw [decide_eq_false c]; exact Bool.false_ne_true)]]
        rfl
    rintro σ' H' ⟨rfl, rfl⟩
    have hb := MT.body_len l
    have hbm := fun c => MT.body_mem (l := l) (c := c)
    have hbe := MT.body_eq l
    rw [MT.spell_def] at kE kQ
    generalize MT.bodyOf l = b at hb hbm hbe kE kQ ⊢
    generalize MT.isNeg l = ng at hbe kE kQ
    k_updF
    refine ⟨_, _, rfl, rfl, rfl, by rw [SX.S_len, sizeLine_eq]; omega, fun p hp => ?_⟩
    refine WP.unT (SqT.of upd_same) rfl ?_
    rw [MT.part_S]
    have e1 : Same H' (upd H' p (.tup [.str (Txt.partition (SX.S b) (SX.S [46])).1, .str (Txt.partition (SX.S b) (SX.S [46])).2.1, .str (Txt.partition (SX.S b) (SX.S [46])).2.2])) := WP.same_new hp
    rw [MT.part_S] at e1
    generalize upd H' p _ = H1 at e1 ⊢
    k_updF
    have hwm : ∀ c ∈ MT.cutW 46 b, c < 128 := fun c h => ok c (hbm c (MT.cutW_mem h))
    have hwl : (MT.cutW 46 b).length ≤ b.length := by
      cases e : MT.cutR 46 b with
      | none => rw [(MT.cut_none e).1]; exact Nat.le_refl _
      | some r => have := MT.cutR_len e; omega
    refine ⟨_, rfl, by omega, hwm, (WP.Sm.of e1).t _ hT, fun H2 e2 => ?_⟩
    have e2 := (WP.Sm.of e1).trans e2
    k_updF
    have hzw : (MT.cutW 46 b).length ≤ sizeLine := by rw [sizeLine_eq]; omega
    cases e : MT.cutR 46 b with
    | none =>
      rw [e, MT.spellB_none] at kE kQ
      cases hw : MT.whole (MT.cutW 46 b) with
      | false =>
        refine WP.brT rfl ?_
        refine WP.brT rfl ?_
        exact kE (by rw [hw]; rfl) _ e2
      | true =>
        refine WP.brF rfl ?_
        k_updF
        refine WP.brF rfl ?_
        refine WP.brF rfl ?_
        k_updF
        refine WP.lenS' hzw ?_
        k_updF
        refine WP.lenS' (l := []) (by rw [sizeLine_eq]; decide) ?_
        k_updF
        have hw' : MW.figs (MT.cutW 46 b) = true := by
          unfold MT.whole at hw
          rw [Bool.and_eq_true] at hw
          exact hw.1
        obtain ⟨hne, hfa⟩ := MW.figs_all hw'
        refine WP.br (fun c => ?_) (fun c => ?_)
        · exact kE (if_neg (fun z => by have := z.2; simp at c; omega)) _ e2
        · have c' : (MT.cutW 46 b).length ≤ 18 := by simp at c; omega
          rw [if_pos ⟨hw, c'⟩] at kQ
          k_updF
          refine WP.catS ?_ (by rw [sizeLine_eq]; simp; omega)
          rw [Option.getD_none, List.append_nil]
          k_updF
          refine WP.intSd hfa hne (by omega) ?_
          k_updF
          rw [hbe]
          have kk := kQ _ _ rfl
          cases ng with
          | true =>
            refine WP.brF rfl ?_
            k_updF
            refine WP.lenS' (l := []) (by rw [sizeLine_eq]; decide) ?_
            k_updF
            exact ⟨_, _, rfl, by decide, fun p H3 e3 hp => kk p H3 (e2.trans (.of e3)) hp⟩
          | false =>
            refine WP.brT rfl ?_
            k_updF
            refine WP.lenS' (l := []) (by rw [sizeLine_eq]; decide) ?_
            k_updF
            exact ⟨_, _, rfl, by decide, fun p H3 e3 hp => kk p H3 (e2.trans (.of e3)) hp⟩
    | some f =>
      rw [e, MT.spellB_some] at kE kQ
      have hfl := MT.cutR_len e
      have hfm : ∀ c ∈ f, c < 128 := fun c h => ok c (hbm c (MT.cutR_mem e h))
      have hzf : f.length ≤ sizeLine := by rw [sizeLine_eq]; omega
      cases hw : MT.whole (MT.cutW 46 b) with
      | false =>
        refine WP.brT rfl ?_
        refine WP.brT rfl ?_
        exact kE (if_neg fun z => by rw [hw] at z; cases z.1) _ e2
      | true =>
        refine WP.brF rfl ?_
        k_updF
        refine WP.brT rfl ?_
        k_updF
        refine ⟨_, rfl, .str (by rw [Option.getD_some]; omega) (by rw [Option.getD_some]; exact hfm), e2.t _ hT, fun H3 e3 => ?_⟩
        have e3 := e2.trans e3
        rw [MW.onS_S, Option.getD_some]
        k_updF
        cases hf : MW.figs f with
        | false =>
          refine WP.brT rfl ?_
          exact kE (if_neg fun z => by rw [hf] at z; cases z.2.1) _ e3
        | true =>
          refine WP.brF rfl ?_
          k_updF
          refine WP.lenS' hzw ?_
          k_updF
          refine WP.lenS' hzf ?_
          k_updF
          have hw' : MW.figs (MT.cutW 46 b) = true := by
            unfold MT.whole at hw
            rw [Bool.and_eq_true] at hw
            exact hw.1
          obtain ⟨hne, hfa⟩ := MW.figs_all hw'
          obtain ⟨fne, ffa⟩ := MW.figs_all hf
          refine WP.br (fun c => ?_) (fun c => ?_)
          · exact kE (if_neg (fun z => by have := z.2.2; omega)) _ e3
          · rw [if_pos ⟨hw, hf, by omega⟩] at kQ
            k_updF
            refine WP.catS ?_ (by rw [sizeLine_eq]; omega)
            k_updF
            refine WP.intSd (by rw [List.all_append, hfa, ffa]; rfl) (fun z => hne (List.append_eq_nil_iff.mp z).1) (by rw [List.length_append]; omega) ?_
            k_updF
            rw [hbe]
            have kk := kQ _ _ rfl
            cases ng with
            | true =>
              refine WP.brF rfl ?_
              k_updF
              refine WP.lenS' hzf ?_
              k_updF
              exact ⟨_, _, rfl, by omega, fun p H4 e4 hp => kk p H4 (e3.trans (.of e4)) hp⟩
            | false =>
              refine WP.brT rfl ?_
              k_updF
              refine WP.lenS' hzf ?_
              k_updF
              exact ⟨_, _, rfl, by omega, fun p H4 e4 hp => kk p H4 (e3.trans (.of e4)) hp⟩
end
abbrev s__law_parse : Stmt := top 25
abbrev N__law_parse : List Str := ["text", "e"]
theorem sc__law_parse : FnScope N__law_parse ["text"] (defScope s__law_parse) := ⟨rfl, rfl, rfl, by decide +kernel, rfl, by decide +kernel, by decide +kernel⟩
/-- what the law takes for an answer -/
def rdv : Option (Int × Nat) → List V
  | none => [.str (SX.S [114, 101, 102, 117, 115, 101, 100]), .bl true]
  | some (u, s) => WP.dv u s
def sp__law_parse (K : PySem.W.Frag) (mg : WP.MG) : Sp := fun vs H Q _ => ∃ l : List Nat, vs = [.str (SX.S l)] ∧ l.length ≤ 1000 ∧ (∀ c ∈ l, c < 128) ∧ GxR.TabG H (WP.tbl K "_has_only") ∧ WP.MetT (rdv (MT.spell l)) H Q
section
variable {P : Program} {w : World} {K : PySem.W.Frag} {mg : Str → Option Value} {base : Heap}
theorem ok__law_parse {f : Addr} {fd : FuncData} (F : Fun K "_law_parse" "_law_parse" s__law_parse f fd) (B : Blt w K mg) (c_parse : WP.Callee P w K mg base (L2.CX P w) 4 "parse" ["text"] (sp_parse K mg)) : FnOk P w K mg base CX0 5 f fd ["text"] (sp__law_parse K mg) := by
  refine F.ok sc__law_parse (fun vs H Q E h => ?_) (fun cdv A outer s H vs Q E hr h => ?_)
  · first | (obtain ⟨_, rfl, _⟩ := h; rfl) | (obtain ⟨_, _, rfl, _⟩ := h; rfl) | (obtain ⟨_, _, _, rfl, _⟩ := h; rfl) | (obtain ⟨_, _, _, _, rfl, _⟩ := h; rfl) | (obtain ⟨_, _, _, _, _, rfl, _⟩ := h; rfl) | (obtain ⟨_, _, _, _, _, _, rfl, _⟩ := h; rfl) | (obtain ⟨_, _, _, _, _, _, _, rfl, _⟩ := h; rfl) | (obtain ⟨_, _, _, _, _, _, _, _, rfl, _⟩ := h; rfl) | (obtain ⟨rfl, _⟩ := h; rfl)
  · obtain ⟨l, rfl, hl, ok, hT, k⟩ := h
    refine ⟨_, (pss_one (ps_try_as (i := 1) (tb := fun W => (tRet (tCallS (sp_parse K mg) (WE W) (tCons (tVar 0) tNil)))) (ts := fun a cls d => (tRet (tTup (tCons (tC (.str "refused")) (tCons (tCB (WP.rIsX K a cls d) (tCons (tVar 1) (tCons (tC (.ref (WP.ca mg "BadDecimal"))) tNil))) tNil))))) (Wout := (fun _ _ _ _ => False)) rfl rfl sc__law_parse.nd rfl rfl ⟨rfl, by decide, Or.inl B.e_CardError.m⟩ takes0
        (fun W pn xe tk _ => (pss_one (ps_ret (WP.pe_callSC c_parse hr rfl (fun σ => passAt tk σ) (WP.pa_consN (pv 0) pa_nil)))))
        (fun a oe cls d pn hz hf => (pss_one (ps_ret (pe_tup (WP.pa_consN (WP.pe_strL [114, 101, 102, 117, 115, 101, 100] (by decide +kernel)) (WP.pa_consN (pe_callB (WP.call_isX hz hf) (by rfl) B.b_isinstance (by decide +kernel) (pa_cons (pv 1) (pa_cons (pe_glob rfl B.e_BadDecimal.m rfl) pa_nil))) pa_nil)))))))), ?_⟩
    k_updF
    refine WP.callS ?_
    k_updF
    refine ⟨l, rfl, hl, ok, hT, fun e H' e1 => ?_, fun u s e => ?_⟩
    · refine ⟨true, B.e_CardError.a.catches B.s_BadDecimal_CardError, fun _ a na => ?_, fun z => Bool.noConfusion z⟩
      k_updF
      refine WP.isX B.e_BadDecimal.a.c B.i_BadDecimal_BadDecimal ?_
      k_updF
      rw [e] at k
      exact ⟨WP.sz2, k.new e1⟩
    · rw [e] at k
      exact k
end
abbrev s__law_figures : Stmt := top 23
abbrev N__law_figures : List Str := ["text", "char"]
theorem sc__law_figures : FnScope N__law_figures ["text"] (defScope s__law_figures) := ⟨rfl, rfl, rfl, by decide +kernel, rfl, by decide +kernel, by decide +kernel⟩
def sp__law_figures (K : PySem.W.Frag) (mg : WP.MG) : Sp := fun vs H Q _ => ∃ l : List Nat, vs = [.str (SX.S l)] ∧ Q (.bl (MW.figs l)) H
section
variable {P : Program} {w : World} {K : PySem.W.Frag} {mg : Str → Option Value} {base : Heap}
theorem ok__law_figures {f : Addr} {fd : FuncData} (F : Fun K "_law_figures" "_law_figures" s__law_figures f fd) (B : Blt w K mg)  : FnOk P w K mg base CX0 1 f fd ["text"] (sp__law_figures K mg) := by
  refine F.ok sc__law_figures (fun vs H Q E h => ?_) (fun cdv A outer s H vs Q E hr h => ?_)
  · first | (obtain ⟨_, rfl, _⟩ := h; rfl) | (obtain ⟨_, _, rfl, _⟩ := h; rfl) | (obtain ⟨_, _, _, rfl, _⟩ := h; rfl) | (obtain ⟨_, _, _, _, rfl, _⟩ := h; rfl) | (obtain ⟨_, _, _, _, _, rfl, _⟩ := h; rfl) | (obtain ⟨_, _, _, _, _, _, rfl, _⟩ := h; rfl) | (obtain ⟨_, _, _, _, _, _, _, rfl, _⟩ := h; rfl) | (obtain ⟨_, _, _, _, _, _, _, _, rfl, _⟩ := h; rfl) | (obtain ⟨rfl, _⟩ := h; rfl)
  · obtain ⟨l, rfl, k⟩ := h
    refine ⟨_, (pss_cons (ps_if (pt_cmpR op_eq (pv 0) (WP.pe_strL [] (by decide +kernel)) (nomark _)) (pss_one (ps_ret pe_bl)) pss_nil)
      (pss_cons (ps_for PassesOwn.never rfl (pi_str (pv 0)) (pg_name (i := 1) sc__law_figures.nd rfl (Or.inl rfl)) (pss_one (ps_if (pt_cmpR WP.op_notInSign (pv 1) (WP.pe_strL [48, 49, 50, 51, 52, 53, 54, 55, 56, 57] (by decide +kernel)) rfl) (pss_one (ps_ret pe_bl)) pss_nil)))
      (pss_one (ps_ret pe_bl)))), ?_⟩
    k_updF
    refine WP.br (fun c => ?_) (fun c => ?_)
    · k_updF
      rw [show MW.figs l = false by unfold MW.figs; rw [decide_eq_true c]; rfl] at k
      exact k
    · k_updF
      rw [show MW.figs l = MW.allIn l MW.FIG by unfold MW.figs; rw [decide_eq_false c]; rfl] at k
      refine ⟨_, rfl, WP.for_txt (fun i σ' H' => H' = H ∧ ∃ z, σ' = [some (.str (SX.S l)), z] ∧ MW.allIn l MW.FIG = MW.allIn (l.drop i) MW.FIG) ⟨rfl, none, rfl, rfl⟩ ?_ ?_⟩
      · rintro i c σ' H' hc ⟨rfl, z, rfl, e⟩
        have ed : l.drop i = c :: l.drop (i + 1) := by
          obtain ⟨hi, e⟩ := List.getElem?_eq_some_iff.mp hc
          rw [List.drop_eq_getElem_cons hi, e]
        rw [ed] at e
        have e2 : MW.allIn (c :: l.drop (i + 1)) MW.FIG = (decide (c ∈ MW.FIG) && MW.allIn (l.drop (i + 1)) MW.FIG) := rfl
        rw [e2] at e
        k_updF
        refine WP.notInSign (l := MW.FIG) ?_
        k_updF
        refine WP.brN (fun d => ?_) (fun d => ?_)
        · k_updF
          rw [e, decide_eq_false d] at k
          exact k
        · k_updF
          exact ⟨rfl, _, rfl, by rw [e, decide_eq_true d]; rfl⟩
      · rintro σ' H' ⟨rfl, z, rfl, e⟩
        k_updF
        rw [e, List.drop_length] at k
        exact k
end
abbrev s__law_read : Stmt := top 24
abbrev N__law_read : List Str := ["text", "body", "parts", "part", "units"]
theorem sc__law_read : FnScope N__law_read ["text"] (defScope s__law_read) := ⟨rfl, rfl, rfl, by decide +kernel, rfl, by decide +kernel, by decide +kernel⟩
def sp__law_read (K : PySem.W.Frag) (mg : WP.MG) : Sp := fun vs H Q _ => ∃ l : List Nat, vs = [.str (SX.S l)] ∧ l.length ≤ 1000 ∧ (∀ c ∈ l, c < 128) ∧ WP.RetT (rdv (MT.spell l)) H Q
section
variable {P : Program} {w : World} {K : PySem.W.Frag} {mg : Str → Option Value} {base : Heap}
theorem ok__law_read {f : Addr} {fd : FuncData} (F : Fun K "_law_read" "_law_read" s__law_read f fd) (B : Blt w K mg) (c__law_decimal : WP.Callee P w K mg base CX0 1 "_law_decimal" ["units", "scale"] (sp__law_decimal K mg)) (c__law_figures : WP.Callee P w K mg base CX0 1 "_law_figures" ["text"] (sp__law_figures K mg)) : FnOk P w K mg base CX0 2 f fd ["text"] (sp__law_read K mg) := by
  refine F.ok sc__law_read (fun vs H Q E h => ?_) (fun cdv A outer s H vs Q E hr h => ?_)
  · first | (obtain ⟨_, rfl, _⟩ := h; rfl) | (obtain ⟨_, _, rfl, _⟩ := h; rfl) | (obtain ⟨_, _, _, rfl, _⟩ := h; rfl) | (obtain ⟨_, _, _, _, rfl, _⟩ := h; rfl) | (obtain ⟨_, _, _, _, _, rfl, _⟩ := h; rfl) | (obtain ⟨_, _, _, _, _, _, rfl, _⟩ := h; rfl) | (obtain ⟨_, _, _, _, _, _, _, rfl, _⟩ := h; rfl) | (obtain ⟨_, _, _, _, _, _, _, _, rfl, _⟩ := h; rfl) | (obtain ⟨rfl, _⟩ := h; rfl)
  · obtain ⟨l, rfl, hl, ok, k⟩ := h
    refine ⟨_, (Evl.pss_cut (ps_set (i := 1) sc__law_read.nd rfl (Or.inl rfl) (pe_ifExp (pt_cmpR op_eq (pe_slice sl_str (pv 0) po_none (po_some pe_int)) (WP.pe_strL [45] (by decide +kernel)) (nomark _)) (pe_slice sl_str (pv 0) (po_some pe_int) po_none) (pv 0)))
      (pss_cons (ps_set (i := 2) sc__law_read.nd rfl (Or.inl rfl) (pe_bm PySem.F.plainAttrs_str PySem.F.slot_str_split PySem.F.type_str_split mt_split (pv 1) (WP.pa_consN (WP.pe_strL [46] (by decide +kernel)) pa_nil)))
      (pss_cons (ps_if (PW.pt (pw_or (pt_cmpR op_gt (pe_callB WP.c_len (by rfl) B.b_len (by decide +kernel) (WP.pa_consN (pv 2) pa_nil)) pe_int (nomark _)) (pw_or1 (pt_cmpR op_gt (pe_callB WP.c_len (by rfl) B.b_len (by decide +kernel) (WP.pa_consN (pe_bm PySem.F.plainAttrs_str PySem.F.slot_str_join PySem.F.type_str_join mt_join (WP.pe_strL [] (by decide +kernel)) (WP.pa_consN (pv 2) pa_nil)) pa_nil)) pe_int (nomark _))))) (pss_one (ps_ret (pe_tup (WP.pa_consN (WP.pe_strL [114, 101, 102, 117, 115, 101, 100] (by decide +kernel)) (WP.pa_consN pe_bl pa_nil))))) pss_nil)
      (pss_cons (ps_for PassesOwn.never rfl (pi_list (pv 2)) (pg_name (i := 3) sc__law_read.nd rfl (Or.inl rfl)) (pss_one (ps_if (pt_not (pt_val (WP.pe_callC c__law_figures hr rfl pass0 (WP.pa_consN (pv 3) pa_nil)))) (pss_one (ps_ret (pe_tup (WP.pa_consN (WP.pe_strL [114, 101, 102, 117, 115, 101, 100] (by decide +kernel)) (WP.pa_consN pe_bl pa_nil))))) pss_nil)))
      (Evl.pss_cut (ps_if (PW.pt (pw_and (pt_cmpR op_gt (pe_callB WP.c_len (by rfl) B.b_len (by decide +kernel) (WP.pa_consN (pe_ix ix_list (pv 2) pe_int (fun _ _ => rfl)) pa_nil)) pe_int (nomark _)) (pw_and1 (pt_cmpR op_eq (pe_ix ix_str (pe_ix ix_list (pv 2) pe_int (fun _ _ => rfl)) pe_int (fun _ _ => rfl)) (WP.pe_strL [48] (by decide +kernel)) (nomark _))))) (pss_one (ps_ret (pe_tup (WP.pa_consN (WP.pe_strL [114, 101, 102, 117, 115, 101, 100] (by decide +kernel)) (WP.pa_consN pe_bl pa_nil))))) pss_nil)
      (pss_cons (ps_set (i := 4) sc__law_read.nd rfl (Or.inl rfl) (pe_callTy WP.c_intS (by rfl) B.b_int (by decide +kernel) (WP.pa_consN (pe_bm PySem.F.plainAttrs_str PySem.F.slot_str_join PySem.F.type_str_join mt_join (WP.pe_strL [] (by decide +kernel)) (WP.pa_consN (pv 2) pa_nil)) pa_nil)))
      (Evl.pss_cut (ps_if (pt_cmpR op_eq (pe_slice sl_str (pv 0) po_none (po_some pe_int)) (WP.pe_strL [45] (by decide +kernel)) (nomark _)) (pss_one (ps_set (i := 4) sc__law_read.nd rfl (Or.inl rfl) (pe_un un_neg (pv 4)))) pss_nil)
      (pss_one (ps_ret (WP.pe_callC c__law_decimal hr rfl pass0 (WP.pa_consN (pv 4) (WP.pa_consN (pe_ifExp (pt_cmpR op_eq (pe_callB WP.c_len (by rfl) B.b_len (by decide +kernel) (WP.pa_consN (pv 2) pa_nil)) pe_int (nomark _)) (pe_callB WP.c_len (by rfl) B.b_len (by decide +kernel) (WP.pa_consN (pe_ix ix_list (pv 2) pe_int (fun _ _ => rfl)) pa_nil)) pe_int) pa_nil)))))))))))), ?_⟩
    have hz : l.length ≤ sizeLine := by rw [sizeLine_eq]; omega
    have h45 : decide (l.take 1 = [45]) = MT.isNeg l := by
      unfold MT.isNeg
      congr 1
      cases l with
      | nil => exact propext ⟨fun h => by simp at h, fun h => by cases h⟩
      | cons a r => exact propext ⟨fun h => by simp at h; rw [h]; rfl, fun h => by simp at h; rw [h]; rfl⟩
    refine WP.cut (fun σ' H' => H' = H ∧ σ' = [some (.str (SX.S l)), some (.str (SX.S (MT.bodyOf l))), none, none, none]) ?_ ?_
    · k_updF
      refine WP.slTo (by decide) hz ?_
      k_updF
      rw [show (1 : Int).toNat = 1 from rfl, h45]
      cases hn : MT.isNeg l with
      | true =>
        refine WP.brT rfl ?_
        k_updF
        refine WP.slFrom (by decide) hz ?_
        k_updF
        refine ⟨rfl, ?_⟩
        rw [show MT.bodyOf l = l.drop (1 : Int).toNat by unfold MT.bodyOf; rw [if_pos hn]; rfl]
        rfl
      | false =>
        refine WP.brF rfl ?_
        k_updF
        refine ⟨rfl, ?_⟩
        rw [show MT.bodyOf l = l by unfold MT.bodyOf; rw [if_neg (by rw [hn]; exact Bool.false_ne_true)]]
        rfl
    rintro σ' H' ⟨rfl, rfl⟩
    have hb := MT.body_len l
    rw [MT.spell_def, MT.read_spell] at k
    generalize MT.bodyOf l = b at hb k ⊢
    have hfl := MT.spl_flat (c := 46) b.length b (Nat.le_refl _)
    have h1 := MT.spl_ne (c := 46) b
    have hcnt := MT.spl_count (c := 46) b.length b (Nat.le_refl _)
    k_updF
    refine ⟨_, _, rfl, rfl, rfl, by rw [SX.S_len, sizeLine_eq]; omega, fun p hp => ?_⟩
    rw [SX.split_S (by decide) (by decide), List.map_map]
    have e1 : Same H' (upd H' p (.lst ((TL.spl [46] 0 [] b).map (V.str ∘ SX.S)))) := WP.same_new hp
    have hpp : SqL K (upd H' p (.lst ((TL.spl [46] 0 [] b).map (V.str ∘ SX.S)))) p ((TL.spl [46] 0 [] b).map fun a => V.str (SX.S a)) := SqL.of upd_same
    generalize upd H' p _ = H1 at e1 hpp ⊢
    generalize TL.spl [46] 0 [] b = ps at hfl h1 hcnt k hpp
    generalize MT.isNeg l = ng at h45 k
    have ref : ∀ H2, Same H' H2 → MT.readP ng ps = none → ∀ t, H2 t = none → Q (.ref t) (upd H2 t (.tup [.str (SX.S [114, 101, 102, 117, 115, 101, 100]), .bl true])) := fun H2 e2 e => by
      rw [e] at k
      exact k.new e2
    k_updF
    refine WP.lenL hpp ?_
    rw [List.length_map]
    k_updF
    have hj : ∀ (R : VK) σ, R (.str (SX.S ps.flatten)) H1 → σ[2]? = some (some (V.ref p)) → tBM K "str" (fun x xs H Q => ∃ a p, ∃ ys : List Str, x = .str a ∧ xs = [.ref p] ∧ (SqL K H p (ys.map V.str) ∨ SqT K H p (ys.map V.str)) ∧ (ys.map (·.length)).sum + ys.length * a.length ≤ 16777216 ∧ Q (.str (Txt.join a ys)) H) (tC (.str (SX.S []))) (tCons (tVar 2) tNil) σ H1 R := fun R σ q hv => by
      refine WP.bm (WP.con (WP.tyS (WP.cons (WP.var hv (WP.nil ?_)))))
      refine ⟨_, p, ps.map SX.S, rfl, rfl, .inl (by rw [List.map_map]; exact hpp), ?_, ?_⟩
      · rw [SX.lens, ← List.length_flatten, SX.S_len, List.length_nil, Nat.mul_zero]; omega
      · rw [SX.join_S, MT.joinL0]; exact q
    refine WP.br (fun c => ?_) (fun c => ?_)
    · refine WP.brT rfl ?_
      k_updF
      refine ⟨WP.sz2, ref H1 e1 ?_⟩
      unfold MT.readP
      rw [if_pos (.inl (by omega))]
    have hzf : ps.flatten.length ≤ sizeLine := by rw [sizeLine_eq]; omega
    refine WP.test (WP.op (WP.cb (WP.cons (hj _ _ ?_ rfl))))
    k_updF
    refine WP.lenS' hzf ?_
    k_updF
    refine WP.br (fun c2 => ?_) (fun c2 => ?_)
    · k_updF
      refine ⟨WP.sz2, ref H1 e1 ?_⟩
      unfold MT.readP
      rw [if_pos (.inr (by omega))]
    k_updF
    have r1 : MT.readP ng ps = if ps.all MW.figs = false then none else if (ps.headD []).length > 1 ∧ (ps.headD []).headD 0 = 48 then none else some (MD.nrm (MT.sgn ng (NumText.digitsVal ps.flatten)) (if ps.length = 2 then (ps.getD 1 []).length else 0)) := by
      unfold MT.readP
      rw [if_neg (show ¬ (ps.length > 2 ∨ ps.flatten.length > 18) from fun z => z.elim (fun z => by omega) (fun z => by omega))]
    rw [r1] at k ref
    refine ⟨p, rfl, ⟨_, hpp⟩, for_list (xs := ps.map fun a => V.str (SX.S a)) (fun i σ' H2 => H2 = H1 ∧ ∃ z, σ' = [some (.str (SX.S l)), some (.str (SX.S b)), some (.ref p), z, none] ∧ (ps.take i).all MW.figs = true) ⟨rfl, none, rfl, rfl⟩ (fun _ _ _ _ q => by rw [q.1]; exact hpp) ?_ ?_⟩
    · rintro i x σ' H2 hx ⟨rfl, z, rfl, hall⟩
      rw [List.getElem?_map] at hx
      cases hg : ps[i]? with
      | none => rw [hg] at hx; cases hx
      | some a =>
        rw [hg] at hx
        cases hx
        k_updF
        refine ⟨a, rfl, ?_⟩
        k_updF
        cases hf : MW.figs a with
        | false =>
          refine WP.brT rfl ?_
          k_updF
          refine ⟨WP.sz2, ref _ e1 ?_⟩
          rw [if_pos (List.all_eq_false.mpr ⟨a, List.mem_of_getElem? hg, by rw [hf]; exact Bool.false_ne_true⟩)]
        | true =>
          refine WP.brF rfl ?_
          k_updF
          exact ⟨rfl, _, rfl, by rw [List.take_succ, hg, List.all_append, hall]; simp [hf]⟩
    rintro σ' H2 ⟨rfl, z, rfl, hall⟩
    rw [List.length_map, List.take_length] at hall
    rw [if_neg (by rw [hall]; simp)] at k ref
    obtain ⟨w, rest, rfl⟩ : ∃ w rest, ps = w :: rest := by
      cases ps with
      | nil => exact absurd h1 (by decide)
      | cons w rest => exact ⟨w, rest, rfl⟩
    have hwl : w.length ≤ 1000 := by rw [List.flatten_cons, List.length_append] at hfl; omega
    have hzw : w.length ≤ sizeLine := by rw [sizeLine_eq]; omega
    have hall' : MW.figs w = true ∧ rest.all MW.figs = true := by simpa using hall
    have hwf := MW.figs_all hall'.1
    change WP.RetT (rdv (if w.length > 1 ∧ w.headD 0 = 48 then none else _)) H' Q at k
    have ref : w.length > 1 ∧ w.headD 0 = 48 → ∀ t, H2 t = none → Q (V.ref t) (upd H2 t (.tup [.str (SX.S [114, 101, 102, 117, 115, 101, 100]), .bl true])) := fun z => ref H2 e1 (if_pos z)
    have h0w : atI ((w :: rest).map fun a => V.str (SX.S a)) (0 : Int) = some (.str (SX.S w)) := WP.at0
    have hfl2 : (w :: rest).flatten.all (fun c => decide (48 ≤ c) && decide (c ≤ 57)) = true := by
      refine List.all_eq_true.mpr fun c hc => ?_
      obtain ⟨a, ha, hca⟩ := List.mem_flatten.mp hc
      exact List.all_eq_true.mp (MW.figs_all (List.all_eq_true.mp hall a ha)).2 c hca
    have hne2 : (w :: rest).flatten ≠ [] := fun e => hwf.1 (by
      rw [List.flatten_cons] at e
      exact (List.append_eq_nil_iff.mp e).1)
    refine WP.cut (fun σ' H3 => H3 = H2 ∧ σ' = [some (.str (SX.S l)), some (.str (SX.S b)), some (.ref p), z, none] ∧ ¬ (w.length > 1 ∧ w.headD 0 = 48)) ?_ ?_
    · k_updF
      refine WP.ixL hpp h0w ?_
      k_updF
      refine WP.lenS' hzw ?_
      k_updF
      refine WP.br (fun d => ?_) (fun d => ?_)
      · k_updF
        refine WP.ixL hpp h0w ?_
        k_updF
        refine WP.ixS1 (MW.ends (by omega)).1 hzw ?_
        k_updF
        generalize w.headD 0 = x at ref ⊢
        rw [show decide ([x] = [48]) = decide (x = 48) by congr 1; exact propext ⟨fun z => by simpa using z, fun z => by rw [z]⟩]
        refine WP.br (fun d2 => ?_) (fun d2 => ?_)
        · k_updF
          exact ⟨WP.sz2, ref ⟨by omega, d2⟩⟩
        · k_updF
          exact ⟨rfl, rfl, fun z => d2 z.2⟩
      · refine WP.brF rfl ?_
        k_updF
        exact ⟨rfl, rfl, fun z => d (by omega)⟩
    rintro σ' H3 ⟨rfl, rfl, hnz⟩
    rw [if_neg hnz] at k
    k_memK
    k_memK
    refine WP.cb (WP.cons (hj _ _ ?_ rfl))
    k_updF
    refine WP.intSd hfl2 hne2 (by rw [List.flatten_cons, List.length_append] at *; omega) ?_
    k_updF
    refine WP.cut (fun σ' H4 => H4 = H3 ∧ σ' = [some (.str (SX.S l)), some (.str (SX.S b)), some (.ref p), z, some (.int (MT.sgn ng (NumText.digitsVal (w :: rest).flatten)))]) ?_ ?_
    · k_updF
      refine WP.slTo (by decide) hz ?_
      k_updF
      rw [show (1 : Int).toNat = 1 from rfl, h45]
      cases ng with
      | true =>
        refine WP.brT rfl ?_
        k_updF
        exact ⟨rfl, rfl⟩
      | false =>
        refine WP.brF rfl ?_
        k_updF
        exact ⟨rfl, rfl⟩
    rintro σ' H4 ⟨rfl, rfl⟩
    generalize MT.sgn ng (NumText.digitsVal (w :: rest).flatten) = U at k ⊢
    k_updF
    refine WP.lenL hpp ?_
    rw [List.length_map]
    k_updF
    refine WP.br (fun d => ?_) (fun d => ?_)
    · rw [if_pos (by omega)] at k
      obtain ⟨f, rfl⟩ : ∃ f, rest = [f] := by
        cases rest with
        | nil => simp at d
        | cons f r =>
          cases r with
          | nil => exact ⟨f, rfl⟩
          | cons g q => simp at d; omega
      have hfl3 : f.length ≤ 1000 := by simp at hfl; omega
      k_updF
      refine WP.ixL hpp (show atI ([w, f].map fun a => V.str (SX.S a)) (1 : Int) = some (.str (SX.S f)) from WP.at1) ?_
      k_updF
      refine WP.lenS' (by rw [sizeLine_eq]; omega) ?_
      k_updF
      exact ⟨_, _, rfl, by omega, by omega, fun q H4 e4 hq => k q H4 (e1.trans e4) hq⟩
    · rw [if_neg (by omega)] at k
      k_updF
      exact ⟨_, _, rfl, by decide, by decide, fun q H4 e4 hq => k q H4 (e1.trans e4) hq⟩
end
abbrev s_law : Stmt := top 26
abbrev N_law : List Str := ["script", "written", "k", "rich", "value", "text", "changed"]
theorem sc_law : FnScope N_law ["script"] (defScope s_law) := ⟨rfl, rfl, rfl, by decide +kernel, rfl, by decide +kernel, by decide +kernel⟩
/-- the written texts -/
def W16 : List (List Nat) := [[], [45], [46], [48], [45, 48], [48, 46, 48], [45, 48, 46, 48, 48], [48, 48], [48, 49, 46, 53], [49, 46], [46, 53], [45, 45, 49], [49, 46, 50, 46, 51], [43, 49], [49, 32], List.replicate 18 57]
def W5 : List (List Nat) := [List.replicate 19 57, [48, 46] ++ List.replicate 17 49, [48, 46] ++ List.replicate 18 49, [49, 46, 53, 48], [45, 49, 46, 48]]
def sp_law (K : PySem.W.Frag) : Sp := fun vs H Q _ => ∃ (a : Addr) (ns : List Int), vs = [.ref a] ∧ SqL K H a (ns.map V.int) ∧ ns.length ≤ 63 ∧ GxR.TabG H (WP.tbl K "_has_only") ∧ ∀ H', Q (.bl true) H'
section
variable {P : Program} {w : World} {K : PySem.W.Frag} {mg : Str → Option Value} {base : Heap}
theorem ok_law {f : Addr} {fd : FuncData} (F : Fun K "law" "law" s_law f fd) (B : Blt w K mg) (c__law_rich : WP.Callee P w K mg base CX0 1 "_law_rich" ["cell", "k"] (sp__law_rich K mg)) (c__law_number : WP.Callee P w K mg base CX0 2 "_law_number" ["rich"] (sp__law_number K mg)) (c_show : WP.Callee P w K mg base CX0 2 "show" ["a"] (sp_show K mg)) (c__law_changed : WP.Callee P w K mg base CX0 1 "_law_changed" ["text", "rich"] (sp__law_changed K mg)) (c__law_cell : WP.Callee P w K mg base CX0 1 "_law_cell" ["script", "k"] (sp__law_cell K mg)) (c__law_text : WP.Callee P w K mg base CX0 1 "_law_text" ["value"] (sp__law_text K mg)) (c__law_parse : WP.Callee P w K mg base CX0 5 "_law_parse" ["text"] (sp__law_parse K mg)) (c__law_read : WP.Callee P w K mg base CX0 2 "_law_read" ["text"] (sp__law_read K mg)) (c_parse : WP.Callee P w K mg base (L2.CX P w) 4 "parse" ["text"] (sp_parse K mg)) : FnOk P w K mg base CX0 6 f fd ["script"] (sp_law K) := by
  refine WT.okS F sc_law (by decide +kernel) (by decide) (fun vs H Q E h => ?_) (fun cdv A outer s H vs Q E hr h => ?_)
  · first | (obtain ⟨_, rfl, _⟩ := h; rfl) | (obtain ⟨_, _, rfl, _⟩ := h; rfl) | (obtain ⟨_, _, _, rfl, _⟩ := h; rfl) | (obtain ⟨_, _, _, _, rfl, _⟩ := h; rfl) | (obtain ⟨_, _, _, _, _, rfl, _⟩ := h; rfl) | (obtain ⟨_, _, _, _, _, _, rfl, _⟩ := h; rfl) | (obtain ⟨_, _, _, _, _, _, _, rfl, _⟩ := h; rfl) | (obtain ⟨_, _, _, _, _, _, _, _, rfl, _⟩ := h; rfl) | (obtain ⟨rfl, _⟩ := h; rfl)
  · obtain ⟨a, ns, rfl, ha, hl, hT, k⟩ := h
    refine ⟨_, (WT.ss_cons (WT.ST.of (ps_set (i := 1) sc_law.nd rfl (Or.inl rfl) (pe_lst (WP.pa_consN (WP.pe_strL [] (by decide +kernel)) (WP.pa_consN (WP.pe_strL [45] (by decide +kernel)) (WP.pa_consN (WP.pe_strL [46] (by decide +kernel)) (WP.pa_consN (WP.pe_strL [48] (by decide +kernel)) (WP.pa_consN (WP.pe_strL [45, 48] (by decide +kernel)) (WP.pa_consN (WP.pe_strL [48, 46, 48] (by decide +kernel)) (WP.pa_consN (WP.pe_strL [45, 48, 46, 48, 48] (by decide +kernel)) (WP.pa_consN (WP.pe_strL [48, 48] (by decide +kernel)) (WP.pa_consN (WP.pe_strL [48, 49, 46, 53] (by decide +kernel)) (WP.pa_consN (WP.pe_strL [49, 46] (by decide +kernel)) (WP.pa_consN (WP.pe_strL [46, 53] (by decide +kernel)) (WP.pa_consN (WP.pe_strL [45, 45, 49] (by decide +kernel)) (WP.pa_consN (WP.pe_strL [49, 46, 50, 46, 51] (by decide +kernel)) (WP.pa_consN (WP.pe_strL [43, 49] (by decide +kernel)) (WP.pa_consN (WP.pe_strL [49, 32] (by decide +kernel)) (WP.pa_consN (pe_op WP.op_mul_str (WP.pe_strL [57] (by decide +kernel)) pe_int) pa_nil)))))))))))))))))))
      (WT.ss_cons (WT.ST.of (ps_set (i := 1) sc_law.nd rfl (Or.inl rfl) (pe_op op_cat (pv 1) (pe_lst (WP.pa_consN (pe_op WP.op_mul_str (WP.pe_strL [57] (by decide +kernel)) pe_int) (WP.pa_consN (pe_op WP.op_addS (WP.pe_strL [48, 46] (by decide +kernel)) (pe_op WP.op_mul_str (WP.pe_strL [49] (by decide +kernel)) pe_int)) (WP.pa_consN (pe_op WP.op_addS (WP.pe_strL [48, 46] (by decide +kernel)) (pe_op WP.op_mul_str (WP.pe_strL [49] (by decide +kernel)) pe_int)) (WP.pa_consN (WP.pe_strL [49, 46, 53, 48] (by decide +kernel)) (WP.pa_consN (WP.pe_strL [45, 49, 46, 48] (by decide +kernel)) pa_nil)))))))))
      (WT.ss_cons (WT.s_for PassesOwn.never rfl (pi_range1 rfl B.b_range (WP.pa_consN (pe_callB (WP.c_max2 rfl) (by rfl) B.b_max (by decide +kernel) (WP.pa_consN pe_int (WP.pa_consN (pe_callB (WP.c_min2 rfl) (by rfl) B.b_min (by decide +kernel) (WP.pa_consN pe_int (WP.pa_consN (pe_callB WP.c_len (by rfl) B.b_len (by decide +kernel) (WP.pa_consN (pv 0) pa_nil)) pa_nil))) pa_nil))) pa_nil)) (pg_name (i := 2) sc_law.nd rfl (Or.inl rfl)) (WT.ss_cons (WT.ST.of (ps_set (i := 3) sc_law.nd rfl (Or.inl rfl) (WP.pe_callC c__law_rich hr rfl pass0 (WP.pa_consN (WP.pe_callC c__law_cell hr rfl pass0 (WP.pa_consN (pv 0) (WP.pa_consN (pv 2) pa_nil))) (WP.pa_consN (pv 2) pa_nil)))))
      (WT.ss_cons (WT.ST.of (ps_set (i := 4) sc_law.nd rfl (Or.inl rfl) (WP.pe_callC c__law_number hr rfl pass0 (WP.pa_consN (pv 3) pa_nil))))
      (WT.ss_cons (WT.ST.of (ps_set (i := 5) sc_law.nd rfl (Or.inl rfl) (WP.pe_callC c_show hr rfl pass0 (WP.pa_consN (pv 4) pa_nil))))
      (WT.ss_cut (WT.ST.of (ps_if (pt_cmpR op_ne (pv 5) (WP.pe_callC c__law_text hr rfl pass0 (WP.pa_consN (pv 4) pa_nil)) (nomark _)) (pss_one (ps_ret pe_bl)) pss_nil))
      (WT.ss_cut (WT.s_if (WT.TW.pt (WT.w_and (WT.t_cmp op_le (WT.e_len WP.c_len rfl B.b_len rfl (WT.e_replT (WT.e_replC (pv 5)))) (WT.ET.of pe_int) (nomark _)) (WT.TW.of (pw_and1 (pt_cmpR (op_neD hr.units) (WP.pe_callC c_parse hr rfl WP.pass0X (WP.pa_consN (pv 5) pa_nil)) (pv 4) (nomark _)))))) (WT.SsT.of (pss_one (ps_ret pe_bl))) (WT.SsT.of pss_nil))
      (WT.SsT.of (pss_cons (ps_set (i := 6) sc_law.nd rfl (Or.inl rfl) (WP.pe_callC c__law_changed hr rfl pass0 (WP.pa_consN (pv 5) (WP.pa_consN (pe_op op_fdiv (pv 3) pe_int) pa_nil))))
      (Evl.pss_cut (ps_if (pt_cmpR op_eq (pe_op op_mod (pe_op op_fdiv (pv 3) pe_int) pe_int) pe_int (nomark _)) (pss_one (ps_set (i := 6) sc_law.nd rfl (Or.inl rfl) (pe_ix ix_list (pv 1) (pe_op op_mod (pe_op op_fdiv (pv 3) pe_int) pe_int) (fun _ _ => rfl)))) pss_nil)
      (pss_one (ps_if (pt_cmpR (op_neD hr.units) (WP.pe_callC c__law_parse hr rfl pass0 (WP.pa_consN (pv 6) pa_nil)) (WP.pe_callC c__law_read hr rfl pass0 (WP.pa_consN (pv 6) pa_nil)) (nomark _)) (pss_one (ps_ret pe_bl)) pss_nil)))))))))))
      (WT.SsT.of (pss_one (ps_ret pe_bl)))))), ?_⟩
    k_updF
    refine WP.mulS (by decide) (by decide) ?_
    k_updF
    refine ⟨WP.sz (show 16 ≤ 1000000 by decide), fun L1 hL1 => ?_⟩
    have e1 : Same H (upd H L1 (.lst ((W16).map fun l => V.str (SX.S l)))) := WP.same_new hL1
    have s1 : (upd H L1 (.lst ((W16).map fun l => V.str (SX.S l)))) L1 = some (.lst ((W16).map fun l => V.str (SX.S l))) := upd_same
    change gName _ _ _ (upd H L1 (.lst ((W16).map fun l => V.str (SX.S l)))) _
    generalize upd H L1 (.lst ((W16).map fun l => V.str (SX.S l))) = H1 at e1 s1 ⊢
    k_updF
    refine WP.mulS (by decide) (by decide) ?_
    k_updF
    refine WP.mulS (by decide) (by decide) ?_
    refine WP.catS ?_ (by rw [sizeLine_eq]; decide)
    k_updF
    refine WP.mulS (by decide) (by decide) ?_
    refine WP.catS ?_ (by rw [sizeLine_eq]; decide)
    k_updF
    refine ⟨WP.sz (show 5 ≤ 1000000 by decide), fun L2 hL2 => ?_⟩
    have e2 := WP.same_new (o := .lst ((W5).map fun l => V.str (SX.S l))) hL2
    refine ⟨L1, L2, (W16).map fun l => V.str (SX.S l), (W5).map fun l => V.str (SX.S l), rfl, rfl, e2 _ _ s1, upd_same, ?_, fun L3 hL3 => ?_⟩
    · rw [List.length_map, List.length_map]; exact WP.sz (show 21 ≤ 1000000 by decide)
    change (upd H1 L2 (.lst ((W5).map fun l => V.str (SX.S l)))) L3 = none at hL3
    change gName _ _ _ (upd (upd H1 L2 (.lst ((W5).map fun l => V.str (SX.S l)))) L3 _) _
    rw [← List.map_append]
    generalize upd H1 L2 (.lst ((W5).map fun l => V.str (SX.S l))) = H2 at e2 hL3 ⊢
    have e3 : Same H2 (upd H2 L3 (.lst ((W16 ++ W5).map fun l => V.str (SX.S l)))) := WP.same_new hL3
    have s3 : SqL K (upd H2 L3 (.lst ((W16 ++ W5).map fun l => V.str (SX.S l)))) L3 ((W16 ++ W5).map fun l => V.str (SX.S l)) := SqL.of upd_same
    generalize upd H2 L3 (.lst ((W16 ++ W5).map fun l => V.str (SX.S l))) = H3 at e3 s3 ⊢
    have e : Same H H3 := e1.trans (e2.trans e3)
    have ha := WP.sql e ha
    have hT := (WP.Sm.of e).t _ hT
    clear e1 e2 e3 e s1 hL1 hL2 hL3
    k_updF
    refine WP.lenL ha ?_
    k_updF
    refine WP.minI ?_
    k_updF
    refine WP.maxI ?_
    k_updF
    rw [List.length_map]
    refine ⟨_, rfl, by omega, by omega, for_range (lo := 0) (n := _) (fun i σ' H' => (∃ z2 z3 z4 z5 z6, σ' = [some (.ref a), some (.ref L3), z2, z3, z4, z5, z6]) ∧ WP.Sm H3 H') ⟨⟨_, _, _, _, _, rfl⟩, .refl _⟩ ?_ ?_⟩
    rotate_left
    · rintro σ' H' ⟨_, _⟩
      k_updF
      exact k _
    rintro i σ' H4 hi ⟨⟨z2, z3, z4, z5, z6, rfl⟩, e4⟩
    k_updF
    refine ⟨a, ns, _, rfl, e4.lst ha, by omega, fun c => ?_⟩
    k_updF
    refine ⟨c, _, rfl, fun rich hr0 => ?_⟩
    k_updF
    refine ⟨rich, rfl, fun u s' hd hs hu p H5 e5 hp => ?_⟩
    have e5 := e4.trans (.of e5)
    have tp := SqT.of (K := K) hp
    have hu' : u.natAbs < 10 ^ 570 := Nat.lt_of_le_of_lt hu (by decide +kernel)
    k_updF
    refine ⟨p, u, s', rfl, tp, hu', by omega, fun H6 e6 => ?_⟩
    have e6' := e5.trans (.of e6)
    have tp := WP.sqt e6 tp
    rw [show dtext u s' = MT.dT u s' from rfl]
    obtain ⟨tl, tk⟩ := MT.dT_ok hu hs
    k_updF
    refine WP.cut (fun σ' H' => WP.Sm H3 H' ∧ SqT K H' p (WP.dv u s') ∧ σ' = [some (.ref a), some (.ref L3), some (.int (0 + (i : Int))), some (.int rich), some (.ref p), some (.str (SX.S (MT.dT u s'))), z6]) ?_ ?_
    · k_updF
      refine ⟨p, u, s', rfl, tp, hu', by omega, ?_⟩
      rw [show dtext u s' = MT.dT u s' from rfl]
      k_updF
      refine WP.brF (by simp) ?_
      k_updF
      exact ⟨e6', tp, rfl⟩
    clear e5 e6 e6' tp
    rintro σ' H7 ⟨e7, tp, rfl⟩
    refine WP.cut (fun σ' H' => WP.Sm H3 H' ∧ σ' = [some (.ref a), some (.ref L3), some (.int (0 + (i : Int))), some (.int rich), some (.ref p), some (.str (SX.S (MT.dT u s'))), z6]) ?_ ?_
    · k_memK
      k_memK
      refine WP.test (WP.op (WP.cb (WP.cons (WT.repl (WT.repl (WP.var rfl ⟨_, rfl, ?_, ?_⟩))))))
      · rw [MT.empty_len, SX.S_len]; omega
      rw [MT.repl_dash]
      refine ⟨_, rfl, ?_, ?_⟩
      · rw [MT.empty_len, SX.S_len]
        have := List.length_filter_le (fun x => !decide (x = 45)) (MT.dT u s')
        omega
      rw [MT.repl_dot]
      k_updF
      refine WP.lenS' (by rw [sizeLine_eq, MT.dT_figs]; have := MT.dF_le hu hs; omega) ?_
      rw [MT.dT_figs]
      k_updF
      refine WP.br (fun c1 => ?_) (fun c1 => ?_)
      · k_updF
        have hsp := MT.spell_dT hd (show (MT.dF u s').length ≤ 18 by omega)
        refine ⟨_, rfl, by omega, tk, e7.t _ hT, (fun z => by rw [hsp] at z; cases z), fun u2 s2 z => ?_⟩
        rw [hsp] at z
        cases z
        intro q H8 e8 hq
        k_updF
        refine WP.neD (WP.dpv (SqT.of hq)) (WP.dpv (e8.tup tp)) ?_
        rw [SeqAt.eqv_refl _ (by rfl)]
        refine WP.isbV (R := fun b => if b = true then _ else _) ?_
        refine WP.brF rfl ?_
        k_updF
        exact ⟨e7.trans e8, rfl⟩
      · refine WP.brF rfl ?_
        k_updF
        exact ⟨e7, rfl⟩
    clear e7 tp
    rintro σ' H7 ⟨e7, rfl⟩
    k_updF
    refine WP.iC ⟨by decide, by decide⟩ ?_
    k_updF
    refine ⟨_, _, rfl, by omega, tk, fun l' ll lk => ?_⟩
    k_updF
    refine WP.cut (fun σ' H' => H' = H7 ∧ ∃ l : List Nat, σ' = [some (.ref a), some (.ref L3), some (.int (0 + (i : Int))), some (.int rich), some (.ref p), some (.str (SX.S (MT.dT u s'))), some (.str (SX.S l))] ∧ l.length ≤ 100 ∧ ∀ c ∈ l, c < 128) ?_ ?_
    · k_updF
      refine WP.iC ⟨by decide, by decide⟩ ?_
      k_updF
      refine WP.iC (by decide) ?_
      k_updF
      refine WP.br (fun c1 => ?_) (fun c1 => ?_)
      · k_updF
        refine WP.iC ⟨by decide, by decide⟩ ?_
        k_updF
        refine WP.iC (by decide) ?_
        obtain ⟨w, hw, ew⟩ := WP.at_S (ls := W16 ++ W5) (Int.emod_nonneg (rich / 42) (show (21 : Int) ≠ 0 by decide)) (Int.emod_lt_of_pos (rich / 42) (show (0 : Int) < 21 by decide))
        refine WP.ixL (e7.lst s3) ew ?_
        have hw' := (show ∀ w ∈ W16 ++ W5, w.length ≤ 100 ∧ ∀ c ∈ w, c < 128 by decide) w hw
        k_updF
        exact ⟨rfl, w, rfl, hw'.1, hw'.2⟩
      · k_updF
        exact ⟨rfl, l', rfl, by omega, lk⟩
    rintro σ' H8 ⟨rfl, l, rfl, ll, lk⟩
    k_updF
    refine ⟨l, rfl, by omega, lk, e7.t _ hT, fun q H9 e9 hq => ?_⟩
    k_updF
    refine ⟨l, rfl, by omega, lk, fun q2 H10 e10 hq2 => ?_⟩
    k_updF
    have t1 := WP.sqt e10 (SqT.of (K := K) hq)
    have t2 := SqT.of (K := K) hq2
    have e10' := e7.trans (e9.trans (.of e10))
    generalize MT.spell l = sp at t1 t2
    cases sp with
    | none =>
      refine WP.neD (.tup t1 (.cons (.str _) (.cons (.bl _) .nil))) (.tup t2 (.cons (.str _) (.cons (.bl _) .nil))) ?_
      rw [SeqAt.eqv_refl _ (by decide +kernel)]
      refine WP.isbV (R := fun b => if b = true then _ else _) ?_
      refine WP.brF rfl ?_
      k_updF
      exact ⟨⟨_, _, _, _, _, rfl⟩, e10'⟩
    | some us =>
      obtain ⟨u1, s1⟩ := us
      refine WP.neD (WP.dpv t1) (WP.dpv t2) ?_
      rw [SeqAt.eqv_refl _ (by rfl)]
      refine WP.isbV (R := fun b => if b = true then _ else _) ?_
      refine WP.brF rfl ?_
      k_updF
      exact ⟨⟨_, _, _, _, _, rfl⟩, e10'⟩
end
theorem all_mk {l : PySem.W.OpenLaw} {w : World} {K : PySem.W.Frag} {h : Heap} {mg : Str → Option Value} {fa : Addr} (X : K.In h) (G : h.Ns mainGlobals mg) (hfa : mg "law" = some (.ref fa))
    {fx0 : Addr} {odx0 anx0 : Option Addr} {slx0 : Array (Option Value)} {ocx0 kVx0 dcx0 pmx0 cdx0 ctx0 : Value}
    (ax0 : PySem.W.nsIn K mainGlobals "_law_rich" = some (some (.ref fx0))) (lx0 : K.lookup fx0 = some ⟨ocx0, odx0, .func (PySem.W.fnOf "_law_rich" "_law_rich" (defArgs s__law_rich) (defBody s__law_rich) (defScope s__law_rich) .none kVx0 dcx0 pmx0 anx0 cdx0 ctx0), slx0⟩) (cx0 : PySem.W.codeIn K cdx0 "_law_rich" = true) (kx0 : PySem.W.keepIn K (.ref fx0) = true)
    {fx1 : Addr} {odx1 anx1 : Option Addr} {slx1 : Array (Option Value)} {ocx1 kVx1 dcx1 pmx1 cdx1 ctx1 : Value}
    (ax1 : PySem.W.nsIn K mainGlobals "_law_decimal" = some (some (.ref fx1))) (lx1 : K.lookup fx1 = some ⟨ocx1, odx1, .func (PySem.W.fnOf "_law_decimal" "_law_decimal" (defArgs s__law_decimal) (defBody s__law_decimal) (defScope s__law_decimal) .none kVx1 dcx1 pmx1 anx1 cdx1 ctx1), slx1⟩) (cx1 : PySem.W.codeIn K cdx1 "_law_decimal" = true) (kx1 : PySem.W.keepIn K (.ref fx1) = true)
    {fx2 : Addr} {odx2 anx2 : Option Addr} {slx2 : Array (Option Value)} {ocx2 kVx2 dcx2 pmx2 cdx2 ctx2 : Value}
    (ax2 : PySem.W.nsIn K mainGlobals "_law_number" = some (some (.ref fx2))) (lx2 : K.lookup fx2 = some ⟨ocx2, odx2, .func (PySem.W.fnOf "_law_number" "_law_number" (defArgs s__law_number) (defBody s__law_number) (defScope s__law_number) .none kVx2 dcx2 pmx2 anx2 cdx2 ctx2), slx2⟩) (cx2 : PySem.W.codeIn K cdx2 "_law_number" = true) (kx2 : PySem.W.keepIn K (.ref fx2) = true)
    {fx3 : Addr} {odx3 anx3 : Option Addr} {slx3 : Array (Option Value)} {ocx3 kVx3 dcx3 pmx3 cdx3 ctx3 : Value}
    (ax3 : PySem.W.nsIn K mainGlobals "_figures" = some (some (.ref fx3))) (lx3 : K.lookup fx3 = some ⟨ocx3, odx3, .func (PySem.W.fnOf "_figures" "_figures" (defArgs s__figures) (defBody s__figures) (defScope s__figures) .none kVx3 dcx3 pmx3 anx3 cdx3 ctx3), slx3⟩) (cx3 : PySem.W.codeIn K cdx3 "_figures" = true) (kx3 : PySem.W.keepIn K (.ref fx3) = true)
    {fx4 : Addr} {odx4 anx4 : Option Addr} {slx4 : Array (Option Value)} {ocx4 kVx4 dcx4 pmx4 cdx4 ctx4 : Value}
    (ax4 : PySem.W.nsIn K mainGlobals "show" = some (some (.ref fx4))) (lx4 : K.lookup fx4 = some ⟨ocx4, odx4, .func (PySem.W.fnOf "show" "show" (defArgs s_show) (defBody s_show) (defScope s_show) .none kVx4 dcx4 pmx4 anx4 cdx4 ctx4), slx4⟩) (cx4 : PySem.W.codeIn K cdx4 "show" = true) (kx4 : PySem.W.keepIn K (.ref fx4) = true)
    {fx5 : Addr} {odx5 anx5 : Option Addr} {slx5 : Array (Option Value)} {ocx5 kVx5 dcx5 pmx5 cdx5 ctx5 : Value}
    (ax5 : PySem.W.nsIn K mainGlobals "_law_changed" = some (some (.ref fx5))) (lx5 : K.lookup fx5 = some ⟨ocx5, odx5, .func (PySem.W.fnOf "_law_changed" "_law_changed" (defArgs s__law_changed) (defBody s__law_changed) (defScope s__law_changed) .none kVx5 dcx5 pmx5 anx5 cdx5 ctx5), slx5⟩) (cx5 : PySem.W.codeIn K cdx5 "_law_changed" = true) (kx5 : PySem.W.keepIn K (.ref fx5) = true)
    {fx6 : Addr} {odx6 anx6 : Option Addr} {slx6 : Array (Option Value)} {ocx6 kVx6 dcx6 pmx6 cdx6 ctx6 : Value}
    (ax6 : PySem.W.nsIn K mainGlobals "_law_cell" = some (some (.ref fx6))) (lx6 : K.lookup fx6 = some ⟨ocx6, odx6, .func (PySem.W.fnOf "_law_cell" "_law_cell" (defArgs s__law_cell) (defBody s__law_cell) (defScope s__law_cell) .none kVx6 dcx6 pmx6 anx6 cdx6 ctx6), slx6⟩) (cx6 : PySem.W.codeIn K cdx6 "_law_cell" = true) (kx6 : PySem.W.keepIn K (.ref fx6) = true)
    {fx7 : Addr} {odx7 anx7 : Option Addr} {slx7 : Array (Option Value)} {ocx7 kVx7 dcx7 pmx7 cdx7 ctx7 : Value}
    (ax7 : PySem.W.nsIn K mainGlobals "_law_text" = some (some (.ref fx7))) (lx7 : K.lookup fx7 = some ⟨ocx7, odx7, .func (PySem.W.fnOf "_law_text" "_law_text" (defArgs s__law_text) (defBody s__law_text) (defScope s__law_text) .none kVx7 dcx7 pmx7 anx7 cdx7 ctx7), slx7⟩) (cx7 : PySem.W.codeIn K cdx7 "_law_text" = true) (kx7 : PySem.W.keepIn K (.ref fx7) = true)
    {fx8 : Addr} {odx8 anx8 : Option Addr} {slx8 : Array (Option Value)} {ocx8 kVx8 dcx8 pmx8 cdx8 ctx8 : Value}
    (ax8 : PySem.W.nsIn K mainGlobals "normal" = some (some (.ref fx8))) (lx8 : K.lookup fx8 = some ⟨ocx8, odx8, .func (PySem.W.fnOf "normal" "normal" (defArgs s_normal) (defBody s_normal) (defScope s_normal) .none kVx8 dcx8 pmx8 anx8 cdx8 ctx8), slx8⟩) (cx8 : PySem.W.codeIn K cdx8 "normal" = true) (kx8 : PySem.W.keepIn K (.ref fx8) = true)
    {fx9 Kcx9 Ktx9 : Addr} {odx9 anx9 : Option Addr} {slx9 : Array (Option Value)} {ocx9 kVx9 dcx9 pmx9 ctx9 : Value}
    (ax9 : PySem.W.nsIn K mainGlobals "_has_only" = some (some (.ref fx9))) (tbx9 : PySem.W.tabIn K "_has_only" = some (Kcx9, Ktx9)) (lx9 : K.lookup fx9 = some ⟨ocx9, odx9, .func (PySem.W.fnOf "_has_only" "_has_only" (defArgs s__has_only) (defBody s__has_only) (defScope s__has_only) .none kVx9 dcx9 pmx9 anx9 (.ref Kcx9) ctx9), slx9⟩) (cx9 : PySem.W.codeIn K (.ref Kcx9) "_has_only" = true) (kx9 : PySem.W.keepIn K (.ref fx9) = true)
    (hdx9 : PySem.W.CodeHd h Kcx9 Ktx9 ∧ h.get? Ktx9 = some { cls := .none, data := .fields #[] }) (nkx9 : K.lookup Ktx9 = none)
    {fx10 : Addr} {odx10 anx10 : Option Addr} {slx10 : Array (Option Value)} {ocx10 kVx10 dcx10 pmx10 cdx10 ctx10 : Value}
    (ax10 : PySem.W.nsIn K mainGlobals "are_figures" = some (some (.ref fx10))) (lx10 : K.lookup fx10 = some ⟨ocx10, odx10, .func (PySem.W.fnOf "are_figures" "are_figures" (defArgs s_are_figures) (defBody s_are_figures) (defScope s_are_figures) .none kVx10 dcx10 pmx10 anx10 cdx10 ctx10), slx10⟩) (cx10 : PySem.W.codeIn K cdx10 "are_figures" = true) (kx10 : PySem.W.keepIn K (.ref fx10) = true)
    {fx11 : Addr} {odx11 anx11 : Option Addr} {slx11 : Array (Option Value)} {ocx11 kVx11 dcx11 pmx11 cdx11 ctx11 : Value}
    (ax11 : PySem.W.nsIn K mainGlobals "_is_whole" = some (some (.ref fx11))) (lx11 : K.lookup fx11 = some ⟨ocx11, odx11, .func (PySem.W.fnOf "_is_whole" "_is_whole" (defArgs s__is_whole) (defBody s__is_whole) (defScope s__is_whole) .none kVx11 dcx11 pmx11 anx11 cdx11 ctx11), slx11⟩) (cx11 : PySem.W.codeIn K cdx11 "_is_whole" = true) (kx11 : PySem.W.keepIn K (.ref fx11) = true)
    {fx12 : Addr} {odx12 anx12 : Option Addr} {slx12 : Array (Option Value)} {ocx12 kVx12 dcx12 pmx12 cdx12 ctx12 : Value}
    (ax12 : PySem.W.nsIn K mainGlobals "parse" = some (some (.ref fx12))) (lx12 : K.lookup fx12 = some ⟨ocx12, odx12, .func (PySem.W.fnOf "parse" "parse" (defArgs s_parse) (defBody s_parse) (defScope s_parse) .none kVx12 dcx12 pmx12 anx12 cdx12 ctx12), slx12⟩) (cx12 : PySem.W.codeIn K cdx12 "parse" = true) (kx12 : PySem.W.keepIn K (.ref fx12) = true)
    {fx13 : Addr} {odx13 anx13 : Option Addr} {slx13 : Array (Option Value)} {ocx13 kVx13 dcx13 pmx13 cdx13 ctx13 : Value}
    (ax13 : PySem.W.nsIn K mainGlobals "_law_parse" = some (some (.ref fx13))) (lx13 : K.lookup fx13 = some ⟨ocx13, odx13, .func (PySem.W.fnOf "_law_parse" "_law_parse" (defArgs s__law_parse) (defBody s__law_parse) (defScope s__law_parse) .none kVx13 dcx13 pmx13 anx13 cdx13 ctx13), slx13⟩) (cx13 : PySem.W.codeIn K cdx13 "_law_parse" = true) (kx13 : PySem.W.keepIn K (.ref fx13) = true)
    {fx14 : Addr} {odx14 anx14 : Option Addr} {slx14 : Array (Option Value)} {ocx14 kVx14 dcx14 pmx14 cdx14 ctx14 : Value}
    (ax14 : PySem.W.nsIn K mainGlobals "_law_figures" = some (some (.ref fx14))) (lx14 : K.lookup fx14 = some ⟨ocx14, odx14, .func (PySem.W.fnOf "_law_figures" "_law_figures" (defArgs s__law_figures) (defBody s__law_figures) (defScope s__law_figures) .none kVx14 dcx14 pmx14 anx14 cdx14 ctx14), slx14⟩) (cx14 : PySem.W.codeIn K cdx14 "_law_figures" = true) (kx14 : PySem.W.keepIn K (.ref fx14) = true)
    {fx15 : Addr} {odx15 anx15 : Option Addr} {slx15 : Array (Option Value)} {ocx15 kVx15 dcx15 pmx15 cdx15 ctx15 : Value}
    (ax15 : PySem.W.nsIn K mainGlobals "_law_read" = some (some (.ref fx15))) (lx15 : K.lookup fx15 = some ⟨ocx15, odx15, .func (PySem.W.fnOf "_law_read" "_law_read" (defArgs s__law_read) (defBody s__law_read) (defScope s__law_read) .none kVx15 dcx15 pmx15 anx15 cdx15 ctx15), slx15⟩) (cx15 : PySem.W.codeIn K cdx15 "_law_read" = true) (kx15 : PySem.W.keepIn K (.ref fx15) = true)
    {fx16 : Addr} {odx16 anx16 : Option Addr} {slx16 : Array (Option Value)} {ocx16 kVx16 dcx16 pmx16 cdx16 ctx16 : Value}
    (ax16 : PySem.W.nsIn K mainGlobals "law" = some (some (.ref fx16))) (lx16 : K.lookup fx16 = some ⟨ocx16, odx16, .func (PySem.W.fnOf "law" "law" (defArgs s_law) (defBody s_law) (defScope s_law) .none kVx16 dcx16 pmx16 anx16 cdx16 ctx16), slx16⟩) (cx16 : PySem.W.codeIn K cdx16 "law" = true) (kx16 : PySem.W.keepIn K (.ref fx16) = true)
    (z_abs : PySem.W.nsIn K mainGlobals "abs" = some none)
    (z_all : PySem.W.nsIn K mainGlobals "all" = some none)
    (z_divmod : PySem.W.nsIn K mainGlobals "divmod" = some none)
    (z_int : PySem.W.nsIn K mainGlobals "int" = some none)
    (z_isinstance : PySem.W.nsIn K mainGlobals "isinstance" = some none)
    (z_len : PySem.W.nsIn K mainGlobals "len" = some none)
    (z_max : PySem.W.nsIn K mainGlobals "max" = some none)
    (z_min : PySem.W.nsIn K mainGlobals "min" = some none)
    (z_range : PySem.W.nsIn K mainGlobals "range" = some none)
    (z_reversed : PySem.W.nsIn K mainGlobals "reversed" = some none)
    (z_str : PySem.W.nsIn K mainGlobals "str" = some none)
    {t_FIGURES : Tok} (g_FIGURES : PySem.W.nsIn K mainGlobals "FIGURES" = some (some (.str "0123456789" t_FIGURES)))
    {t_MOST_DIGITS : Tok} (g_MOST_DIGITS : PySem.W.nsIn K mainGlobals "MOST_DIGITS" = some (some (.int 18 t_MOST_DIGITS)))
    {t_PART : Tok} (g_PART : PySem.W.nsIn K mainGlobals "PART" = some (some (.int 1000000000000000000 t_PART)))
    {t_PART_FIGURES : Tok} (g_PART_FIGURES : PySem.W.nsIn K mainGlobals "PART_FIGURES" = some (some (.int 18 t_PART_FIGURES)))
    {aC_BadDecimal : Addr} (n_BadDecimal : PySem.W.nsIn K mainGlobals "BadDecimal" = some (some (.ref aC_BadDecimal))) (x_BadDecimal : PySem.W.excIn K aC_BadDecimal [.type "ValueError", .type "Exception", .type "BaseException", .type "object"] "ValueError.__new__" = true) (kc_BadDecimal : PySem.W.keepIn K (.ref aC_BadDecimal) = true) (tc_BadDecimal : PySem.W.typeIn K (.ref aC_BadDecimal) = some (.type "type"))
    (hg_BadDecimal : PySem.W.findIn K (.ref aC_BadDecimal) "__getattribute__" = some (some (.builtin "BaseException.__getattribute__"))) (hk_BadDecimal : PySem.W.findIn K (.ref aC_BadDecimal) "__getattr__" = some none) (hs_BadDecimal : PySem.W.subIn K (.ref aC_BadDecimal) (.type "BaseException") = some true) (hd_BadDecimal : PySem.W.hasDictIn K aC_BadDecimal = true) (ha_BadDecimal : PySem.W.findIn K (.ref aC_BadDecimal) "__class__" = some (some (.builtin "object.__class__"))) (hm_BadDecimal : PySem.W.mroIn K aC_BadDecimal (.type "object") = some true)
    {aC_CardError : Addr} (n_CardError : PySem.W.nsIn K mainGlobals "CardError" = some (some (.ref aC_CardError))) (x_CardError : PySem.W.excIn K aC_CardError [.type "ValueError", .type "Exception", .type "BaseException", .type "object"] "ValueError.__new__" = true) (kc_CardError : PySem.W.keepIn K (.ref aC_CardError) = true) (tc_CardError : PySem.W.typeIn K (.ref aC_CardError) = some (.type "type"))
    (hg_CardError : PySem.W.findIn K (.ref aC_CardError) "__getattribute__" = some (some (.builtin "BaseException.__getattribute__"))) (hk_CardError : PySem.W.findIn K (.ref aC_CardError) "__getattr__" = some none) (hs_CardError : PySem.W.subIn K (.ref aC_CardError) (.type "BaseException") = some true) (hd_CardError : PySem.W.hasDictIn K aC_CardError = true) (ha_CardError : PySem.W.findIn K (.ref aC_CardError) "__class__" = some (some (.builtin "object.__class__"))) (hm_CardError : PySem.W.mroIn K aC_CardError (.type "object") = some true)
    (hn_ : PySem.W.specialIn K (.builtin "object.__class__") "__get__" = some (some (.builtin "getset_descriptor.__get__"))) (ht_ : PySem.W.takesIn K (.builtin "object.__class__") = some true)
    (s_BadDecimal_CardError : PySem.W.subIn K (.ref aC_BadDecimal) (.ref aC_CardError) = some true)
    (i_BadDecimal_BadDecimal : PySem.W.kitOne K (.ref aC_BadDecimal) (.ref aC_BadDecimal) = some true)
    : LamX.LawAtS l w K CX0 6 63 "script" mg fa h := by
  have e := hfa.symm.trans (PySem.W.mg_of X G ax16)
  cases e
  have B : Blt w K mg := ⟨PySem.W.mg_none_of X G z_abs, PySem.W.mg_none_of X G z_all, PySem.W.mg_none_of X G z_divmod, PySem.W.mg_none_of X G z_int, PySem.W.mg_none_of X G z_isinstance, PySem.W.mg_none_of X G z_len, PySem.W.mg_none_of X G z_max, PySem.W.mg_none_of X G z_min, PySem.W.mg_none_of X G z_range, PySem.W.mg_none_of X G z_reversed, PySem.W.mg_none_of X G z_str, ⟨_, PySem.W.mg_of X G g_FIGURES, _, congrArg (Value.str · _) (by decide +kernel)⟩, ⟨_, PySem.W.mg_of X G g_MOST_DIGITS, _, rfl⟩, ⟨_, PySem.W.mg_of X G g_PART, _, rfl⟩, ⟨_, PySem.W.mg_of X G g_PART_FIGURES, _, rfl⟩, WP.ExcOk.mk' (PySem.W.mg_of X G n_BadDecimal) ⟨x_BadDecimal, kc_BadDecimal, tc_BadDecimal, ⟨hg_BadDecimal, hk_BadDecimal, hs_BadDecimal, hd_BadDecimal, ha_BadDecimal, hn_, ht_, hm_BadDecimal⟩⟩, WP.ExcOk.mk' (PySem.W.mg_of X G n_CardError) ⟨x_CardError, kc_CardError, tc_CardError, ⟨hg_CardError, hk_CardError, hs_CardError, hd_CardError, ha_CardError, hn_, ht_, hm_CardError⟩⟩, by rw [WP.ca_of (PySem.W.mg_of X G n_BadDecimal), WP.ca_of (PySem.W.mg_of X G n_CardError)]; exact s_BadDecimal_CardError, by rw [WP.ca_of (PySem.W.mg_of X G n_BadDecimal)]; exact i_BadDecimal_BadDecimal⟩
  have Fx0 := fun_mk (st := s__law_rich) lx0 cx0 kx0
  have bx0 := Fx0.binds (ps := ["cell", "k"]) fun _ _ _ _ _ _ us hl => match us, hl with | [_, _], _ => rfl
  have Cx0 : ∀ base : Heap, K.In base → base.Ns mainGlobals mg → (∀ p ∈ ([(Kcx9, Ktx9)] : List (Addr × Addr)), LamX.TabB base mg p.1 p.2) → WP.Callee l.prog w K mg base CX0 1 "_law_rich" ["cell", "k"] (sp__law_rich K mg) := fun base p1 p2 p3 => WP.Callee.mk' (ok__law_rich Fx0 B ) (PySem.W.mg_of X G ax0) kx0 bx0
  have Fx1 := fun_mk (st := s__law_decimal) lx1 cx1 kx1
  have bx1 := Fx1.binds (ps := ["units", "scale"]) fun _ _ _ _ _ _ us hl => match us, hl with | [_, _], _ => rfl
  have Cx1 : ∀ base : Heap, K.In base → base.Ns mainGlobals mg → (∀ p ∈ ([(Kcx9, Ktx9)] : List (Addr × Addr)), LamX.TabB base mg p.1 p.2) → WP.Callee l.prog w K mg base CX0 1 "_law_decimal" ["units", "scale"] (sp__law_decimal K mg) := fun base p1 p2 p3 => WP.Callee.mk' (ok__law_decimal Fx1 B ) (PySem.W.mg_of X G ax1) kx1 bx1
  have Fx2 := fun_mk (st := s__law_number) lx2 cx2 kx2
  have bx2 := Fx2.binds (ps := ["rich"]) fun _ _ _ _ _ _ us hl => match us, hl with | [_], _ => rfl
  have Cx2 : ∀ base : Heap, K.In base → base.Ns mainGlobals mg → (∀ p ∈ ([(Kcx9, Ktx9)] : List (Addr × Addr)), LamX.TabB base mg p.1 p.2) → WP.Callee l.prog w K mg base CX0 2 "_law_number" ["rich"] (sp__law_number K mg) := fun base p1 p2 p3 => WP.Callee.mk' (ok__law_number Fx2 B (Cx1 base p1 p2 p3)) (PySem.W.mg_of X G ax2) kx2 bx2
  have Fx3 := fun_mk (st := s__figures) lx3 cx3 kx3
  have bx3 := Fx3.binds (ps := ["units"]) fun _ _ _ _ _ _ us hl => match us, hl with | [_], _ => rfl
  have Cx3 : ∀ base : Heap, K.In base → base.Ns mainGlobals mg → (∀ p ∈ ([(Kcx9, Ktx9)] : List (Addr × Addr)), LamX.TabB base mg p.1 p.2) → WP.Callee l.prog w K mg base CX0 1 "_figures" ["units"] (sp__figures K mg) := fun base p1 p2 p3 => WP.Callee.mk' (ok__figures Fx3 B ) (PySem.W.mg_of X G ax3) kx3 bx3
  have Fx4 := fun_mk (st := s_show) lx4 cx4 kx4
  have bx4 := Fx4.binds (ps := ["a"]) fun _ _ _ _ _ _ us hl => match us, hl with | [_], _ => rfl
  have Cx4 : ∀ base : Heap, K.In base → base.Ns mainGlobals mg → (∀ p ∈ ([(Kcx9, Ktx9)] : List (Addr × Addr)), LamX.TabB base mg p.1 p.2) → WP.Callee l.prog w K mg base CX0 2 "show" ["a"] (sp_show K mg) := fun base p1 p2 p3 => WP.Callee.mk' (ok_show Fx4 B (Cx3 base p1 p2 p3)) (PySem.W.mg_of X G ax4) kx4 bx4
  have Fx5 := fun_mk (st := s__law_changed) lx5 cx5 kx5
  have bx5 := Fx5.binds (ps := ["text", "rich"]) fun _ _ _ _ _ _ us hl => match us, hl with | [_, _], _ => rfl
  have Cx5 : ∀ base : Heap, K.In base → base.Ns mainGlobals mg → (∀ p ∈ ([(Kcx9, Ktx9)] : List (Addr × Addr)), LamX.TabB base mg p.1 p.2) → WP.Callee l.prog w K mg base CX0 1 "_law_changed" ["text", "rich"] (sp__law_changed K mg) := fun base p1 p2 p3 => WP.Callee.mk' (ok__law_changed Fx5 B ) (PySem.W.mg_of X G ax5) kx5 bx5
  have Fx6 := fun_mk (st := s__law_cell) lx6 cx6 kx6
  have bx6 := Fx6.binds (ps := ["script", "k"]) fun _ _ _ _ _ _ us hl => match us, hl with | [_, _], _ => rfl
  have Cx6 : ∀ base : Heap, K.In base → base.Ns mainGlobals mg → (∀ p ∈ ([(Kcx9, Ktx9)] : List (Addr × Addr)), LamX.TabB base mg p.1 p.2) → WP.Callee l.prog w K mg base CX0 1 "_law_cell" ["script", "k"] (sp__law_cell K mg) := fun base p1 p2 p3 => WP.Callee.mk' (ok__law_cell Fx6 B ) (PySem.W.mg_of X G ax6) kx6 bx6
  have Fx7 := fun_mk (st := s__law_text) lx7 cx7 kx7
  have bx7 := Fx7.binds (ps := ["value"]) fun _ _ _ _ _ _ us hl => match us, hl with | [_], _ => rfl
  have Cx7 : ∀ base : Heap, K.In base → base.Ns mainGlobals mg → (∀ p ∈ ([(Kcx9, Ktx9)] : List (Addr × Addr)), LamX.TabB base mg p.1 p.2) → WP.Callee l.prog w K mg base CX0 1 "_law_text" ["value"] (sp__law_text K mg) := fun base p1 p2 p3 => WP.Callee.mk' (ok__law_text Fx7 B ) (PySem.W.mg_of X G ax7) kx7 bx7
  have Fx8 := fun_mk (st := s_normal) lx8 cx8 kx8
  have bx8 := Fx8.binds (ps := ["units", "scale"]) fun _ _ _ _ _ _ us hl => match us, hl with | [_, _], _ => rfl
  have Cx8 : ∀ base : Heap, K.In base → base.Ns mainGlobals mg → (∀ p ∈ ([(Kcx9, Ktx9)] : List (Addr × Addr)), LamX.TabB base mg p.1 p.2) → WP.Callee l.prog w K mg base CX0 1 "normal" ["units", "scale"] (sp_normal K mg) := fun base p1 p2 p3 => WP.Callee.mk' (ok_normal Fx8 B ) (PySem.W.mg_of X G ax8) kx8 bx8
  have Fx9 := fun_mk (st := s__has_only) lx9 cx9 kx9
  have FCx9 := WP.funC_mk (st := s__has_only) (y := "_has_only") lx9 cx9 tbx9
  have bx9 := Fx9.binds (ps := ["text", "characters"]) fun _ _ _ _ _ _ us hl => match us, hl with | [_, _], _ => rfl
  have Cx9 : ∀ base : Heap, K.In base → base.Ns mainGlobals mg → (∀ p ∈ ([(Kcx9, Ktx9)] : List (Addr × Addr)), LamX.TabB base mg p.1 p.2) → WP.Callee l.prog w K mg base CX0 1 "_has_only" ["text", "characters"] (sp__has_only K mg) := fun base p1 p2 p3 => WP.Callee.mk' (ok__has_only FCx9 (WP.tabB_of (p3 (Kcx9, Ktx9) (.head _)) tbx9) B ) (PySem.W.mg_of X G ax9) kx9 bx9
  have Fx10 := fun_mk (st := s_are_figures) lx10 cx10 kx10
  have bx10 := Fx10.binds (ps := ["value"]) fun _ _ _ _ _ _ us hl => match us, hl with | [_], _ => rfl
  have Cx10 : ∀ base : Heap, K.In base → base.Ns mainGlobals mg → (∀ p ∈ ([(Kcx9, Ktx9)] : List (Addr × Addr)), LamX.TabB base mg p.1 p.2) → WP.Callee l.prog w K mg base CX0 2 "are_figures" ["value"] (sp_are_figures K mg) := fun base p1 p2 p3 => WP.Callee.mk' (ok_are_figures Fx10 B (Cx9 base p1 p2 p3)) (PySem.W.mg_of X G ax10) kx10 bx10
  have Fx11 := fun_mk (st := s__is_whole) lx11 cx11 kx11
  have bx11 := Fx11.binds (ps := ["text"]) fun _ _ _ _ _ _ us hl => match us, hl with | [_], _ => rfl
  have Cx11 : ∀ base : Heap, K.In base → base.Ns mainGlobals mg → (∀ p ∈ ([(Kcx9, Ktx9)] : List (Addr × Addr)), LamX.TabB base mg p.1 p.2) → WP.Callee l.prog w K mg base CX0 3 "_is_whole" ["text"] (sp__is_whole K mg) := fun base p1 p2 p3 => WP.Callee.mk' (ok__is_whole Fx11 B (Cx10 base p1 p2 p3)) (PySem.W.mg_of X G ax11) kx11 bx11
  have Fx12 := fun_mk (st := s_parse) lx12 cx12 kx12
  have bx12 := Fx12.binds (ps := ["text"]) fun _ _ _ _ _ _ us hl => match us, hl with | [_], _ => rfl
  have Cx12 : ∀ base : Heap, K.In base → base.Ns mainGlobals mg → (∀ p ∈ ([(Kcx9, Ktx9)] : List (Addr × Addr)), LamX.TabB base mg p.1 p.2) → WP.Callee l.prog w K mg base (L2.CX l.prog w) 4 "parse" ["text"] (sp_parse K mg) := fun base p1 p2 p3 => WP.Callee.mk' (ok_parse Fx12 B (Cx8 base p1 p2 p3) (Cx11 base p1 p2 p3) (Cx10 base p1 p2 p3)) (PySem.W.mg_of X G ax12) kx12 bx12
  have Fx13 := fun_mk (st := s__law_parse) lx13 cx13 kx13
  have bx13 := Fx13.binds (ps := ["text"]) fun _ _ _ _ _ _ us hl => match us, hl with | [_], _ => rfl
  have Cx13 : ∀ base : Heap, K.In base → base.Ns mainGlobals mg → (∀ p ∈ ([(Kcx9, Ktx9)] : List (Addr × Addr)), LamX.TabB base mg p.1 p.2) → WP.Callee l.prog w K mg base CX0 5 "_law_parse" ["text"] (sp__law_parse K mg) := fun base p1 p2 p3 => WP.Callee.mk' (ok__law_parse Fx13 B (Cx12 base p1 p2 p3)) (PySem.W.mg_of X G ax13) kx13 bx13
  have Fx14 := fun_mk (st := s__law_figures) lx14 cx14 kx14
  have bx14 := Fx14.binds (ps := ["text"]) fun _ _ _ _ _ _ us hl => match us, hl with | [_], _ => rfl
  have Cx14 : ∀ base : Heap, K.In base → base.Ns mainGlobals mg → (∀ p ∈ ([(Kcx9, Ktx9)] : List (Addr × Addr)), LamX.TabB base mg p.1 p.2) → WP.Callee l.prog w K mg base CX0 1 "_law_figures" ["text"] (sp__law_figures K mg) := fun base p1 p2 p3 => WP.Callee.mk' (ok__law_figures Fx14 B ) (PySem.W.mg_of X G ax14) kx14 bx14
  have Fx15 := fun_mk (st := s__law_read) lx15 cx15 kx15
  have bx15 := Fx15.binds (ps := ["text"]) fun _ _ _ _ _ _ us hl => match us, hl with | [_], _ => rfl
  have Cx15 : ∀ base : Heap, K.In base → base.Ns mainGlobals mg → (∀ p ∈ ([(Kcx9, Ktx9)] : List (Addr × Addr)), LamX.TabB base mg p.1 p.2) → WP.Callee l.prog w K mg base CX0 2 "_law_read" ["text"] (sp__law_read K mg) := fun base p1 p2 p3 => WP.Callee.mk' (ok__law_read Fx15 B (Cx1 base p1 p2 p3) (Cx14 base p1 p2 p3)) (PySem.W.mg_of X G ax15) kx15 bx15
  have Fx16 := fun_mk (st := s_law) lx16 cx16 kx16
  exact ⟨PySem.W.fnOf "law" "law" (defArgs s_law) (defBody s_law) (defScope s_law) .none kVx16 dcx16 pmx16 anx16 cdx16 ctx16, [(Kcx9, Ktx9)], sp_law K, (List.forall_mem_cons.mpr ⟨hdx9.2, (fun _ h => nomatch h)⟩), (List.forall_mem_cons.mpr ⟨nkx9, (fun _ h => nomatch h)⟩), (List.forall_mem_cons.mpr ⟨hdx9.1, (fun _ h => nomatch h)⟩), fun s v => .of_eq rfl, fun H a ns hl _ hT hS => ⟨a, ns, rfl, hS, hl, ⟨#[], by rw [WP.tbl_of tbx9]; exact hT (Kcx9, Ktx9) (.head _), True.intro⟩, fun _ => rfl⟩, fun base p1 p2 p3 => ok_law Fx16 B (Cx0 base p1 p2 p3) (Cx2 base p1 p2 p3) (Cx4 base p1 p2 p3) (Cx5 base p1 p2 p3) (Cx6 base p1 p2 p3) (Cx7 base p1 p2 p3) (Cx13 base p1 p2 p3) (Cx15 base p1 p2 p3) (Cx12 base p1 p2 p3)⟩
end D
open PySem PySem.W PyProof.Rows
set_option maxRecDepth 100000 in
set_option maxHeartbeats 0 in
theorem PySem.Challenge.cw_cardwright_k04_texts_of_decimals_holds : PySem.Challenge.rw_cardwright_k04_texts_of_decimals.Holds := by
  w_on; o_law; k_head; (case hw => w_witness2)
  k_fill
  refine WP.walk_ofG (l := PySem.Challenge.rw_cardwright_k04_texts_of_decimals) (n := 63) (k := 6) (x := "script") (CX := fun _ => L2.CX0) rfl (by decide) rfl ⟨rfl, by decide, by decide⟩ (fun w h Y => PySem.W.kIn_of Y) ?F (fun _ _ _ _ _ z => z)
  case F =>
    intro w mg fa h Y KX G hmg hT
    refine' D.all_mk KX G hmg ?ax0 ?lx0 ?cx0 ?kx0 ?ax1 ?lx1 ?cx1 ?kx1 ?ax2 ?lx2 ?cx2 ?kx2 ?ax3 ?lx3 ?cx3 ?kx3 ?ax4 ?lx4 ?cx4 ?kx4 ?ax5 ?lx5 ?cx5 ?kx5 ?ax6 ?lx6 ?cx6 ?kx6 ?ax7 ?lx7 ?cx7 ?kx7 ?ax8 ?lx8 ?cx8 ?kx8 ?ax9 ?tbx9 ?lx9 ?cx9 ?kx9 ?hdx9 ?nkx9 ?ax10 ?lx10 ?cx10 ?kx10 ?ax11 ?lx11 ?cx11 ?kx11 ?ax12 ?lx12 ?cx12 ?kx12 ?ax13 ?lx13 ?cx13 ?kx13 ?ax14 ?lx14 ?cx14 ?kx14 ?ax15 ?lx15 ?cx15 ?kx15 ?ax16 ?lx16 ?cx16 ?kx16 ?z_abs ?z_all ?z_divmod ?z_int ?z_isinstance ?z_len ?z_max ?z_min ?z_range ?z_reversed ?z_str ?g_FIGURES ?g_MOST_DIGITS ?g_PART ?g_PART_FIGURES ?n_BadDecimal ?x_BadDecimal ?kc_BadDecimal ?tc_BadDecimal ?hg_BadDecimal ?hk_BadDecimal ?hs_BadDecimal ?hd_BadDecimal ?ha_BadDecimal ?hm_BadDecimal ?n_CardError ?x_CardError ?kc_CardError ?tc_CardError ?hg_CardError ?hk_CardError ?hs_CardError ?hd_CardError ?ha_CardError ?hm_CardError ?hn_ ?ht_ ?s_BadDecimal_CardError ?i_BadDecimal_BadDecimal
    (case ax0 => k_is); (case lx0 => k_is); (case cx0 => k_is); (case kx0 => k_is); (case ax1 => k_is); (case lx1 => k_is)
    (case cx1 => k_is); (case kx1 => k_is); (case ax2 => k_is); (case lx2 => k_is); (case cx2 => k_is); (case kx2 => k_is)
    (case ax3 => k_is); (case lx3 => k_is); (case cx3 => k_is); (case kx3 => k_is); (case ax4 => k_is); (case lx4 => k_is)
    (case cx4 => k_is); (case kx4 => k_is); (case ax5 => k_is); (case lx5 => k_is); (case cx5 => k_is); (case kx5 => k_is)
    (case ax6 => k_is); (case lx6 => k_is); (case cx6 => k_is); (case kx6 => k_is); (case ax7 => k_is); (case lx7 => k_is)
    (case cx7 => k_is); (case kx7 => k_is); (case ax8 => k_is); (case lx8 => k_is); (case cx8 => k_is); (case kx8 => k_is)
    (case ax9 => k_is); (case tbx9 => exact rfl); (case lx9 => k_is); (case cx9 => k_is); (case kx9 => k_is); (case hdx9 => exact hT "_has_only" _ _ (by decide +kernel) rfl)
    (case nkx9 => exact rfl); (case ax10 => k_is); (case lx10 => k_is); (case cx10 => k_is); (case kx10 => k_is); (case ax11 => k_is)
    (case lx11 => k_is); (case cx11 => k_is); (case kx11 => k_is); (case ax12 => k_is); (case lx12 => k_is); (case cx12 => k_is)
    (case kx12 => k_is); (case ax13 => k_is); (case lx13 => k_is); (case cx13 => k_is); (case kx13 => k_is); (case ax14 => k_is)
    (case lx14 => k_is); (case cx14 => k_is); (case kx14 => k_is); (case ax15 => k_is); (case lx15 => k_is); (case cx15 => k_is)
    (case kx15 => k_is); (case ax16 => k_is); (case lx16 => k_is); (case cx16 => k_is); (case kx16 => k_is); (case z_abs => k_is)
    (case z_all => k_is); (case z_divmod => k_is); (case z_int => k_is); (case z_isinstance => k_is); (case z_len => k_is); (case z_max => k_is)
    (case z_min => k_is); (case z_range => k_is); (case z_reversed => k_is); (case z_str => k_is); (case g_FIGURES => k_is); (case g_MOST_DIGITS => k_is)
    (case g_PART => k_is); (case g_PART_FIGURES => k_is); (case n_BadDecimal => k_is); (case x_BadDecimal => k_exc); (case kc_BadDecimal => k_is); (case tc_BadDecimal => k_is)
    (case hg_BadDecimal => k_is); (case hk_BadDecimal => k_is); (case hs_BadDecimal => k_is); (case hd_BadDecimal => k_is); (case ha_BadDecimal => k_is); (case hm_BadDecimal => k_is)
    (case n_CardError => k_is); (case x_CardError => k_exc); (case kc_CardError => k_is); (case tc_CardError => k_is); (case hg_CardError => k_is); (case hk_CardError => k_is)
    (case hs_CardError => k_is); (case hd_CardError => k_is); (case ha_CardError => k_is); (case hm_CardError => k_is); (case hn_ => k_is); (case ht_ => k_is)
    (case s_BadDecimal_CardError => k_is); (case i_BadDecimal_BadDecimal => kit_is)
#print axioms PySem.Challenge.cw_cardwright_k04_texts_of_decimals_holds
