import PyProof.Rows.All
import Wide.All
import OpenK.AllK
import Wide.FinOn
import HandS.ForMost
import HandS.Wide
import HandS.IsInst
import HandS.Evl
import HandS.ForExc
import HandS.ExcIs
import HandS.WideBits
import HandS.AnyAll
import HandS.Codes
import HandS.Comp
import HandS.Dict
import HandS.EndTab
import HandS.Evl
import HandS.Iter
import HandS.MapJoin
import HandS.MapObj
import HandS.More
import HandS.ReplaceDef
import HandS.ReplaceLit
import HandS.Rev
import HandS.RevTup
import HandS.SortKw
import HandS.StrMore
import HandS.Style
import HandS.Text
import HandS.Walk
import HandS.Zip
import KE.DatumOrd
import KE.GoesEnumKw
import PySem.Challenge.RW_cardwright_k42_circles
set_option Elab.async false
set_option linter.all false
set_option maxRecDepth 100000
set_option maxHeartbeats 4000000
namespace WP
open PySem PySem.Spec PyProof.Rows L2

/-! ### a def that may be called -/
structure Callee (P : Program) (w : World) (K : PySem.W.Frag) (mg : Str → Option Value) (base : Heap) (CX : CXT) (lv : Nat) (nm : Str) (ps : List Str) (sp : Sp) : Prop where
  ex : ∃ (f : Addr) (fd : FuncData), FnOk P w K mg base CX lv f fd ps sp ∧ mg nm = some (.ref f) ∧ PySem.W.keepIn K (.ref f) = true ∧ Binds K fd ps []
theorem Callee.mk' {P : Program} {w : World} {K : PySem.W.Frag} {mg : Str → Option Value} {base : Heap} {CX : CXT} {lv : Nat} {nm : Str} {ps : List Str} {sp : Sp} {f : Addr} {fd : FuncData}
    (h : FnOk P w K mg base CX lv f fd ps sp) (m : mg nm = some (.ref f)) (k : PySem.W.keepIn K (.ref f) = true) (b : Binds K fd ps []) : Callee P w K mg base CX lv nm ps sp := ⟨⟨f, fd, h, m, k, b⟩⟩
section
variable {X : Cx} {CX : CXT} {k j : Nat} {ps : List Str} {sp : Sp} {E : XK} {x : Str} {p pos : Pos} {e : Expr} {es : List Expr} {t : TA}
theorem pe_callC (C : Callee X.prog X.w X.K X.mg X.base CX k x ps sp) (hr : Room j X.A) (hg : Gl X x) (hx : Passes CX X E) (ha : PA X (e :: es) t) (hl : k ≤ j := by decide)
    (hdb : (x == ("__debug__" : Str)) = false := by decide) (he : starEach (e :: es) X.env = (false, eval e X.env) :: starEach es X.env := by rfl) (hpl : (backTo pos (starEach es X.env)).any (·.1) = false := by rfl) :
    PE X (.Call (.Name x p) (e :: es) [] pos) (tCall sp [] E t) := by
  obtain ⟨f, fd, F, hm, hk, hb⟩ := C.ex
  exact pe_call F (hr.mono hl) hg hm hk hb .nil hx ha hdb he hpl
theorem pe_callC0 (C : Callee X.prog X.w X.K X.mg X.base CX k x ps sp) (hr : Room j X.A) (hg : Gl X x) (hx : Passes CX X E) (hl : k ≤ j := by decide)
    (hdb : (x == ("__debug__" : Str)) = false := by decide) : PE X (.Call (.Name x p) [] [] pos) (tCall sp [] E tNil) := by
  obtain ⟨f, fd, F, hm, hk, hb⟩ := C.ex
  exact pe_call0 F (hr.mono hl) hg hm hk hb .nil hx hdb
end

/-! ### readings, a step at a time -/
section
variable {σ : L2.St} {H : Hp} {D : Ends} {t u : TS} {te ta tb : TE} {tt tu : TT} {g : TG} {Q : VK} {QB : Bool → Hp → Prop} {QA : List V → Hp → Prop} {r : R2} {i j : Int} {n : Nat} {v x y : V}
theorem seq (h : t { D with nx := u D } σ H) : tSeq t u D σ H := h
theorem asg (h : te σ H fun x H1 => g x σ H1 D.nx) : tAsg te g D σ H := h
theorem name {QS : L2.St → Hp → Prop} (h : QS (σ.set n (some v)) H) : gName n v σ H QS := h
theorem var (e : σ[n]? = some (some v)) (h : Q v H) : tVar n σ H Q := ⟨v, e, h⟩
theorem con (h : Q v H) : tC v σ H Q := h
theorem op (h : ta σ H fun x H1 => tb σ H1 fun y H2 => r x y H2 Q) : tOp r ta tb σ H Q := h
theorem un {ru : V → Hp → VK → Prop} (h : ta σ H fun x H1 => ru x H1 Q) : tUn ru ta σ H Q := h
theorem rU_ {g : Int → V} (h : Q (g i) H) : rU g (.int i) H Q := ⟨i, rfl, h⟩
theorem i0 {g : Int → Int → V} (h : Q (g i j) H) : rI0 g (.int i) (.int j) H Q := ⟨i, j, rfl, rfl, h⟩
theorem iC {C : Int → Int → Prop} {g : Int → Int → V} (c : C i j) (h : Q (g i j) H) : rI C g (.int i) (.int j) H Q := ⟨i, j, rfl, rfl, c, h⟩
theorem eqS (s : scal x y = true) (h : Q (.bl (decide (x = y))) H) : rEq x y H Q := ⟨s, h⟩
theorem neS (s : scal x y = true) (h : Q (.bl (!decide (x = y))) H) : rNe x y H Q := ⟨s, h⟩
theorem ifS (h : tt σ H fun b H1 => if b = true then t D σ H1 else u D σ H1) : tIfS tt t u D σ H := h
theorem ifE (h : tt σ H fun b H1 => if b = true then ta σ H1 Q else tb σ H1 Q) : tIf tt ta tb σ H Q := h
theorem test (h : te σ H fun x H1 => ∃ k, x = .bl k ∧ QB k H1) : tTest te σ H QB := h
theorem bt (h : te σ H fun x H1 => ∃ k, x = .bl k ∧ QB k H1) : tB te σ H QB := h
theorem isb {b : Bool} (h : QB b H) : ∃ k, V.bl b = V.bl k ∧ QB k H := ⟨b, rfl, h⟩
theorem ret (h : te σ H D.rt) : tRet te D σ H := h
theorem retN (h : D.rt .non H) : tRetN D σ H := h
theorem drop (h : te σ H fun _ H1 => D.nx σ H1) : tDrop te D σ H := h
theorem next (h : D.nx σ H) : tNext D σ H := h
theorem brk (h : D.bk σ H) : tBreak D σ H := h
theorem cont (h : D.ct σ H) : tCont D σ H := h
theorem cb {rc : List V → Hp → VK → Prop} {a : TA} (h : a σ H fun vs H1 => rc vs H1 Q) : tCB rc a σ H Q := h
theorem call {sp : Sp} {E : XK} {a : TA} (h : a σ H fun vs H1 => sp (vs ++ []) H1 Q E) : tCall sp [] E a σ H Q := h
theorem cons {a : TA} (h : te σ H fun x H1 => a σ H1 fun xs H2 => QA (x :: xs) H2) : tCons te a σ H QA := h
theorem nil (h : QA [] H) : tNil σ H QA := h
theorem tup {a : TA} (h : a σ H fun xs H1 => xs.length ≤ sizeLine ∧ ∀ p, H1 p = none → Q (.ref p) (upd H1 p (.tup xs))) : tTup a σ H Q := h
theorem lst {a : TA} (h : a σ H fun xs H1 => xs.length ≤ sizeLine ∧ ∀ p, H1 p = none → Q (.ref p) (upd H1 p (.lst xs))) : tLst a σ H Q := h
theorem notT (h : tt σ H fun c H1 => QB (!c) H1) : tNot tt σ H QB := h
theorem andT (h : tt σ H fun c H1 => if c = true then tu σ H1 QB else QB false H1) : tAnd tt tu σ H QB := h
theorem orT (h : tt σ H fun c H1 => if c = true then QB true H1 else tu σ H1 QB) : tOr tt tu σ H QB := h
theorem andV (h : ta σ H fun x H1 => ∃ c, x = .bl c ∧ if c = true then tb σ H1 Q else Q (.bl false) H1) : tAndV ta tb σ H Q := h
theorem orV (h : ta σ H fun x H1 => ∃ c, x = .bl c ∧ if c = true then Q (.bl true) H1 else tb σ H1 Q) : tOrV ta tb σ H Q := h
theorem notV (h : ta σ H fun x H1 => ∃ c, x = .bl c ∧ Q (.bl (!c)) H1) : tNotV ta σ H Q := h
theorem isbV {b : Bool} {R : Bool → Prop} (h : R b) : ∃ k, V.bl b = V.bl k ∧ R k := ⟨b, rfl, h⟩
theorem sl {r : V → Option Int → Option Int → Hp → VK → Prop} {tl th : TO} (h : te σ H fun x H1 => tl σ H1 fun l H2 => th σ H2 fun u H3 => r x l u H3 Q) : tSl r te tl th σ H Q := h
theorem noPart {QO : Option Int → Hp → Prop} (h : QO none H) : tNoPart σ H QO := h
theorem part {QO : Option Int → Hp → Prop} (h : te σ H fun x H1 => ∃ i, x = .int i ∧ QO (some i) H1) : tPart te σ H QO := h
theorem isi {R : Int → Prop} (h : R i) : ∃ k, V.int i = V.int k ∧ R k := ⟨i, rfl, h⟩
/-- tests -/
theorem br {c A B : Prop} [Decidable c] (h1 : c → A) (h2 : ¬ c → B) : if decide c = true then A else B := by
  by_cases h : c
  · rw [decide_eq_true h, if_pos rfl]; exact h1 h
  · rw [decide_eq_false h, if_neg Bool.false_ne_true]; exact h2 h
theorem brN {c A B : Prop} [Decidable c] (h1 : ¬ c → A) (h2 : c → B) : if (!decide c) = true then A else B := by
  by_cases h : c
  · rw [decide_eq_true h]; exact iteF (h2 h)
  · rw [decide_eq_false h]; exact iteT (h1 h)
theorem brT {b : Bool} {A B : Prop} (e : b = true) (h : A) : if b = true then A else B := by rw [if_pos e]; exact h
theorem brF {b : Bool} {A B : Prop} (e : b = false) (h : B) : if b = true then A else B := by rw [if_neg (by rw [e]; exact Bool.false_ne_true)]; exact h
theorem brB {b : Bool} {A B : Prop} (h1 : b = true → A) (h2 : b = false → B) : if b = true then A else B := by
  cases b
  · exact iteF (h2 rfl)
  · exact iteT (h1 rfl)
theorem dec_int {i j : Int} : decide (V.int i = V.int j) = decide (i = j) := by
  by_cases h : i = j
  · rw [decide_eq_true h, decide_eq_true (congrArg V.int h)]
  · rw [decide_eq_false h, decide_eq_false fun e => h (V.int.inj e)]
theorem dec_str {i j : Str} : decide (V.str i = V.str j) = decide (i = j) := by
  by_cases h : i = j
  · rw [decide_eq_true h, decide_eq_true (congrArg V.str h)]
  · rw [decide_eq_false h, decide_eq_false fun e => h (V.str.inj e)]
theorem dec_bl {i j : Bool} : decide (V.bl i = V.bl j) = decide (i = j) := by
  by_cases h : i = j
  · rw [decide_eq_true h, decide_eq_true (congrArg V.bl h)]
  · rw [decide_eq_false h, decide_eq_false fun e => h (V.bl.inj e)]
theorem eqI (h : Q (.bl (decide (i = j))) H) : rEq (.int i) (.int j) H Q := ⟨rfl, by rw [dec_int]; exact h⟩
theorem neI (h : Q (.bl (!decide (i = j))) H) : rNe (.int i) (.int j) H Q := ⟨rfl, by rw [dec_int]; exact h⟩
theorem eqT {a b : Str} (h : Q (.bl (decide (a = b))) H) : rEq (.str a) (.str b) H Q := ⟨rfl, by rw [dec_str]; exact h⟩
theorem neT {a b : Str} (h : Q (.bl (!decide (a = b))) H) : rNe (.str a) (.str b) H Q := ⟨rfl, by rw [dec_str]; exact h⟩
theorem eqB {a b : Bool} (h : Q (.bl (decide (a = b))) H) : rEq (.bl a) (.bl b) H Q := ⟨rfl, by rw [dec_bl]; exact h⟩
theorem neB {a b : Bool} (h : Q (.bl (!decide (a = b))) H) : rNe (.bl a) (.bl b) H Q := ⟨rfl, by rw [dec_bl]; exact h⟩
end
/-! ### numbers of a known number of bits -/
theorem sz2 : (2 : Nat) ≤ sizeLine := by rw [sizeLine_eq]; decide
theorem sz {n : Nat} (h : n ≤ 1000000) : n ≤ sizeLine := by rw [sizeLine_eq]; omega
end WP
namespace WP
open PySem PySem.Spec PyProof.Rows L2
section
variable {X : Cx} {x : Str} {v : V} {pos : Pos}
theorem pe_const (hg : Gl X x) (h : ∃ u, X.mg x = some u ∧ RelV v u) (hd : (x == ("__debug__" : Str)) = false := by decide) : PE X (.Name x pos) (tC v) := by
  obtain ⟨u, hm, r⟩ := h
  exact pe_glob hg hm r hd
end
/-- a number of at most a bits -/
def Bt (i : Int) (a : Nat) : Prop := i.natAbs < 2 ^ a
theorem Bt.mono {i : Int} {a b : Nat} (h : Bt i a) (l : a ≤ b) : Bt i b := Nat.lt_of_lt_of_le h (Nat.pow_le_pow_right (by decide) l)
theorem Bt.mul {i j : Int} {a b : Nat} (h : Bt i a) (k : Bt j b) : Bt (i * j) (a + b) := wide_lt h k
theorem Bt.neg {i : Int} {a : Nat} (h : Bt i a) : Bt (-i) a := by unfold Bt at *; rw [Int.natAbs_neg]; exact h
theorem Bt.add {i j : Int} {a : Nat} (h : Bt i a) (k : Bt j a) : Bt (i + j) (a + 1) := by
  unfold Bt at *
  have := Int.natAbs_add_le i j
  rw [Nat.pow_succ]; omega
theorem Bt.sub {i j : Int} {a : Nat} (h : Bt i a) (k : Bt j a) : Bt (i - j) (a + 1) := by
  rw [Int.sub_eq_add_neg]; exact h.add k.neg
theorem Bt.le {i j : Int} {a : Nat} (h : Bt i a) (k : j.natAbs ≤ i.natAbs) : Bt j a := Nat.lt_of_le_of_lt k h
theorem Bt.ten (n : Nat) : Bt (10 ^ n) (4 * n + 1) := by
  unfold Bt
  have e : ((10 : Int) ^ n).natAbs = 10 ^ n := by rw [Int.natAbs_pow]; rfl
  rw [e]
  have h : 10 ^ n ≤ 16 ^ n := Nat.pow_le_pow_left (by decide) n
  have h2 : (16 : Nat) ^ n = 2 ^ (4 * n) := by rw [show (16 : Nat) = 2 ^ 4 from rfl, ← Nat.pow_mul]
  rw [h2] at h
  rw [Nat.pow_succ]
  have : 0 < 2 ^ (4 * n) := Nat.pow_pos (by decide)
  omega
theorem Bt.w {i j : Int} {a b : Nat} (h : Bt i a) (k : Bt j b) (l : a + b ≤ 999998 := by omega) : CMulW i j :=
  wide_mul (h.mono (Nat.le_succ a)) (k.mono (Nat.le_succ b)) (Nat.succ_pos _) (Nat.succ_pos _) (by omega)
theorem Bt.d {j : Int} {b : Nat} (h : 0 < j) (k : Bt j b) (l : b ≤ 8999 := by omega) : CDivW 0 j := wide_div h (k.mono (Nat.le_succ b)) (Nat.succ_pos _) (by omega)
theorem Bt.d' {i j : Int} {b : Nat} (h : 0 < j) (k : Bt j b) (l : b ≤ 8999 := by omega) : CDivW i j := Bt.d h k l
theorem ten_pos (n : Nat) : (0 : Int) < 10 ^ n := Int.pow_pos (by decide)
end WP
namespace WP
open PySem PySem.Spec PyProof.Rows L2
/-! ### what comes back -/
def RetT (xs : List V) (H : Hp) (Q : VK) : Prop := ∀ p H', Same H H' → H' p = some (.tup xs) → Q (.ref p) H'
def RetL (xs : List V) (H : Hp) (Q : VK) : Prop := ∀ p H', H p = none → Same H H' → H' p = some (.lst xs) → Q (.ref p) H'
def RetV (v : V) (H : Hp) (Q : VK) : Prop := ∀ H', Same H H' → Q v H'
theorem same_new {H : Hp} {p : Addr} {o : HO} (h : H p = none) : Same H (upd H p o) := fun b u e => by
  rw [upd_ne (ne_of_none e h)]; exact e
theorem same_mut {H H' : Hp} {p : Addr} {o : HO} (e : Same H H') (h : H p = none) : Same H (upd H' p o) := fun a u ha => by
  rw [upd_ne (ne_of_none ha h)]; exact e a u ha
theorem sqt {K : PySem.W.Frag} {H H' : Hp} {a : Addr} {xs : List V} (e : Same H H') (h : SqT K H a xs) : SqT K H' a xs := by
  rcases h with (h | ⟨o, h⟩) | h
  · exact .inl (.inl (e _ _ h))
  · exact .inl (.inr ⟨o, e _ _ h⟩)
  · exact .inr h
theorem RetT.new {xs : List V} {H H' : Hp} {Q : VK} (k : RetT xs H Q) (e : Same H H') : ∀ p, H' p = none → Q (.ref p) (upd H' p (.tup xs)) := fun p hp =>
  k p _ (e.trans (same_new hp)) upd_same
theorem RetL.new {xs : List V} {H H' : Hp} {Q : VK} (k : RetL xs H Q) (e : Same H H') : ∀ p, H' p = none → Q (.ref p) (upd H' p (.lst xs)) := fun p hp =>
  k p _ (e.free hp) (e.trans (same_new hp)) upd_same
/-- a decimal's two parts -/
abbrev dv (u : Int) (s : Nat) : List V := [.int u, .int (s : Int)]
theorem at0 {α : Type} {x : α} {xs : List α} : atI (x :: xs) (0 : Int) = some x := atI_nat (j := 0) rfl
theorem at1 {α : Type} {x y : α} {xs : List α} : atI (x :: y :: xs) (1 : Int) = some y := atI_nat (j := 1) rfl
theorem at2 {α : Type} {x y z : α} {xs : List α} : atI (x :: y :: z :: xs) (2 : Int) = some z := atI_nat (j := 2) rfl
theorem at3 {α : Type} {x y z u : α} {xs : List α} : atI (x :: y :: z :: u :: xs) (3 : Int) = some u := atI_nat (j := 3) rfl
theorem at4 {α : Type} {x y z u v : α} {xs : List α} : atI (x :: y :: z :: u :: v :: xs) (4 : Int) = some v := atI_nat (j := 4) rfl
section
variable {K : PySem.W.Frag} {H : Hp} {p : Addr} {xs : List V} {v : V} {i : Int} {Q : VK}
theorem ixT (h : SqT K H p xs) (a : atI xs i = some v) (q : Q v H) : rIxT K (.ref p) (.int i) H Q := ⟨p, xs, i, v, rfl, rfl, h, a, q⟩
theorem ixL (h : SqL K H p xs) (a : atI xs i = some v) (q : Q v H) : rIxL K (.ref p) (.int i) H Q := ⟨p, xs, i, v, rfl, rfl, h, a, q⟩
theorem unT {n : Nat} {t : TGs} {σ : L2.St} {QS : L2.St → Hp → Prop} (h : SqT K H p xs) (l : xs.length = n) (q : t xs σ H QS) : gTup K n t (.ref p) σ H QS := ⟨p, xs, rfl, h, l, q⟩
theorem gsCons {g : TG} {gs : TGs} {x : V} {r : List V} {σ : L2.St} {QS : L2.St → Hp → Prop} (q : g x σ H fun σ' H' => gs r σ' H' QS) : gCons g gs (x :: r) σ H QS := ⟨x, r, rfl, q⟩
theorem gsNil {σ : L2.St} {QS : L2.St → Hp → Prop} (q : QS σ H) : gNil [] σ H QS := ⟨rfl, q⟩
end
end WP
namespace WP
open PySem PySem.Spec PyProof.Rows L2
section
variable {K : PySem.W.Frag} {H : Hp} {p : Addr} {xs : List V} {v x : V} {i : Int} {Q : VK} {σ : L2.St} {D : Ends}
theorem forl {wi : TI} {g : TG} {tb : TS} (h : wi σ H fun J H1 => ∃ W : Nat → Nat → L2.St → Hp → Prop, (∃ m, W 0 m σ H1) ∧ ∀ i m σ H, W i m σ H →
  (J.stop i H ∧ D.nx σ H) ∨ (J.go i H ∧ ∃ N : L2.St → Hp → Prop, (∀ σ' H', N σ' H' → ∃ m', m' < m ∧ W (i + 1) m' σ' H') ∧ ∀ x H', J.yld i H x H' → g x σ H' fun σ2 H2 => tb { D with nx := N, ct := N, bk := D.nx } σ2 H2)) : tFor wi g tb D σ H := h
theorem rng1 {ta : TA} {R : It → Hp → Prop} (h : ta σ H fun vs H1 => ∃ j : Int, vs = [.int j] ∧ -(2 ^ 62) ≤ j ∧ j < 2 ^ 62 ∧ R (Itr 0 j.toNat) H1) : iRng1 ta σ H R := h
theorem rng2 {ta : TA} {R : It → Hp → Prop} (h : ta σ H fun vs H1 => ∃ i j : Int, vs = [.int i, .int j] ∧ (-(2 ^ 62) ≤ i ∧ i < 2 ^ 62 ∧ -(2 ^ 62) ≤ j ∧ j < 2 ^ 62) ∧ R (Itr i (j - i).toNat) H1) : iRng2 ta σ H R := h
theorem walkL {tl : TE} {R : It → Hp → Prop} (h : tl σ H fun x H1 => ∃ a, x = .ref a ∧ (∃ xs, SqL K H1 a xs) ∧ R (Itl K a) H1) : iList K tl σ H R := h
theorem walkT {tl : TE} {R : It → Hp → Prop} (h : tl σ H fun x H1 => ∃ a, x = .ref a ∧ (∃ xs, SqT K H1 a xs) ∧ R (Itt K a) H1) : iTup K tl σ H R := h
theorem isT {t n : String} {b : Bool} (ty : TyX K H x (.type t)) (q : Q (.bl b) H) (hb : kitB t n = some b := by decide +kernel) : rIsi K [x, .ty n] H Q :=
  ⟨x, .ty n, _, _, b, rfl, ClsV.ty n, ty, kit_ty hb, q⟩
theorem isY {t n : String} (ty : TyX K H x (.type t)) (q : Q (.bl true) H) (hb : kitB t n = some true := by decide +kernel) : rIsi K [x, .ty n] H Q := isT ty q hb
theorem isN {t n : String} (ty : TyX K H x (.type t)) (q : Q (.bl false) H) (hb : kitB t n = some false := by decide +kernel) : rIsi K [x, .ty n] H Q := isT ty q hb
def rLen (K : PySem.W.Frag) : List V → Hp → VK → Prop := fun xs H Q => ∃ x n, xs = [x] ∧ LenV K x H n ∧ Q (.int (n : Nat)) H
theorem c_len {X : Cx} : CallR X (.builtin "len") (rLen X.K) := call_len
theorem lenL (h : SqL K H p xs) (q : Q (.int (xs.length : Int)) H) : rLen K [V.ref p] H Q := ⟨_, _, rfl, .inl ⟨xs, h, rfl⟩, q⟩
theorem lenT (h : SqT K H p xs) (q : Q (.int (xs.length : Int)) H) : rLen K [V.ref p] H Q := ⟨_, _, rfl, .inr ⟨xs, h, rfl⟩, q⟩
theorem lenS {z : Str} (h : z.length ≤ sizeLine) (q : Q (.int (z.length : Int)) H) : rLen K [V.str z] H Q := ⟨_, _, rfl, ⟨h, rfl⟩, q⟩
def rInt1 : List V → Hp → VK → Prop := fun xs H Q => (∃ i, xs = [.int i] ∧ Q (.int i) H) ∨ ∃ k, xs = [.bl k] ∧ Q (.int (if k then 1 else 0)) H
theorem c_int1 {X : Cx} : CallR X (.type "int") rInt1 := call_int1
theorem intI (q : Q (.int i) H) : rInt1 [V.int i] H Q := .inl ⟨i, rfl, q⟩
theorem intB {b : Bool} (q : Q (.int (if b then 1 else 0)) H) : rInt1 [V.bl b] H Q := .inr ⟨b, rfl, q⟩
def rAbs : List V → Hp → VK → Prop := fun xs H Q => ∃ i, xs = [.int i] ∧ Q (.int (if i < 0 then -i else i)) H
theorem c_abs {X : Cx} : CallR X (.builtin "abs") rAbs := call_abs
theorem absI (q : Q (.int (i.natAbs : Int)) H) : rAbs [V.int i] H Q := ⟨i, rfl, by
  have e : (if i < 0 then -i else i) = (i.natAbs : Int) := by split <;> omega
  rw [e]; exact q⟩
def rMax2 : List V → Hp → VK → Prop := fun xs H Q => ∃ i j, xs = [.int i, .int j] ∧ Q (.int (if j > i then j else i)) H
def rMin2 : List V → Hp → VK → Prop := fun xs H Q => ∃ i j, xs = [.int i, .int j] ∧ Q (.int (if j < i then j else i)) H
theorem c_max2 {X : Cx} (hc : X.calm = true) : CallR X (.builtin "max") rMax2 := call_max2 hc
theorem c_min2 {X : Cx} (hc : X.calm = true) : CallR X (.builtin "min") rMin2 := call_min2 hc
theorem maxI {j : Int} (q : Q (.int (max i j)) H) : rMax2 [V.int i, V.int j] H Q := ⟨i, j, rfl, by
  have e : (if j > i then j else i) = max i j := by split <;> omega
  rw [e]; exact q⟩
theorem minI {j : Int} (q : Q (.int (min i j)) H) : rMin2 [V.int i, V.int j] H Q := ⟨i, j, rfl, by
  have e : (if j < i then j else i) = min i j := by split <;> omega
  rw [e]; exact q⟩
def rStrI : List V → Hp → VK → Prop := fun xs H Q => ∃ i : Int, xs = [.int i] ∧ i.natAbs.log2 < 1920 ∧ Q (.str (toString i)) H
theorem c_str {X : Cx} : CallR X (.type "str") rStrI := call_str_int
theorem strI (h : i.natAbs.log2 < 1920) (q : Q (.str (toString i)) H) : rStrI [V.int i] H Q := ⟨i, rfl, h, q⟩
def rListOf (K : PySem.W.Frag) : List V → Hp → VK → Prop := fun xs H Q => ∃ p ys, xs = [.ref p] ∧ (SqL K H p ys ∨ SqT K H p ys) ∧ ∀ l, H l = none → Q (.ref l) (upd H l (.lst ys))
theorem c_listOf {X : Cx} : CallR X (.type "list") (rListOf X.K) := call_list_of
theorem listL (h : SqL K H p xs) (q : ∀ l, H l = none → Q (.ref l) (upd H l (.lst xs))) : rListOf K [V.ref p] H Q := ⟨p, xs, rfl, .inl h, q⟩
theorem listT (h : SqT K H p xs) (q : ∀ l, H l = none → Q (.ref l) (upd H l (.lst xs))) : rListOf K [V.ref p] H Q := ⟨p, xs, rfl, .inr h, q⟩
def rTupOf (K : PySem.W.Frag) : List V → Hp → VK → Prop := fun xs H Q => ∃ p ys, xs = [.ref p] ∧ ((SqL K H p ys ∧ ∀ l, H l = none → Q (.ref l) (upd H l (.tup ys))) ∨ (SqT K H p ys ∧ Q (.ref p) H))
theorem c_tupOf {X : Cx} : CallR X (.type "tuple") (rTupOf X.K) := call_tuple_of
theorem tupL (h : SqL K H p xs) (q : ∀ l, H l = none → Q (.ref l) (upd H l (.tup xs))) : rTupOf K [V.ref p] H Q := ⟨p, xs, rfl, .inl ⟨h, q⟩⟩
def rOrd : List V → Hp → VK → Prop := fun xs H Q => ∃ x : Str, xs = [.str x] ∧ x.length = 1 ∧ Q (.int (x.cps.getD 0 0 : Nat)) H
theorem c_ord {X : Cx} : CallR X (.builtin "ord") rOrd := call_ord
theorem ordS {z : Str} (h : z.length = 1) (q : Q (.int (z.cps.getD 0 0 : Nat)) H) : rOrd [V.str z] H Q := ⟨z, rfl, h, q⟩
def rDivmod : List V → Hp → VK → Prop := fun xs H Q => ∃ i j, xs = [.int i, .int j] ∧ CDiv i j ∧ ∀ p, H p = none → Q (.ref p) (upd H p (.tup [.int (i / j), .int (i % j)]))
theorem c_divmod {X : Cx} : CallR X (.builtin "divmod") rDivmod := call_divmod
theorem sql {H' : Hp} {a : Addr} (e : Same H H') (h : SqL K H a xs) : SqL K H' a xs := e.seq h
theorem at_ints {ns : List Int} (h0 : 0 ≤ i) (h1 : i < (ns.length : Int)) : atI (ns.map V.int) i = some (.int (ns.getD i.toNat 0)) := by
  have e : i = ((i.toNat : Nat) : Int) := (Int.toNat_of_nonneg h0).symm
  rw [e]
  refine atI_nat ?_
  have hl : i.toNat < ns.length := by omega
  rw [List.getElem?_map, List.getElem?_eq_getElem hl, Int.toNat_natCast, List.getD_eq_getElem?_getD, List.getElem?_eq_getElem hl]
  rfl
end
end WP
namespace WP
open PySem PySem.Spec PyProof.Rows L2
section
variable {X : Cx}
theorem cut {t u : TS} {D : Ends} {σ : L2.St} {H : Hp} (Mid : L2.St → Hp → Prop) (h : t { D with nx := Mid } σ H) (k : ∀ σ' H', Mid σ' H' → u D σ' H') : Evl.tCut t u D σ H := ⟨Mid, h, k⟩
end
/-! ### == of data -/
section
variable {K : PySem.W.Frag} {H : Hp} {x y : V} {d e : PyData} {Q : VK}
theorem eqD (a : Dp K H x d) (b : Dp K H y e) (h : Q (.bl (PyData.eqv d e)) H) (s1 : SeqAt.shaped d = true := by first | rfl | decide +kernel) (s2 : SeqAt.shaped e = true := by first | rfl | decide +kernel) : rEqD K x y H Q := ⟨d, e, a, b, s1, s2, h⟩
theorem neD (a : Dp K H x d) (b : Dp K H y e) (h : Q (.bl (!PyData.eqv d e)) H) (s1 : SeqAt.shaped d = true := by first | rfl | decide +kernel) (s2 : SeqAt.shaped e = true := by first | rfl | decide +kernel) : rNeD K x y H Q := ⟨d, e, a, b, s1, s2, h⟩
theorem dpv {p : Addr} {u : Int} {s : Nat} (h : SqT K H p (dv u s)) : Dp K H (.ref p) (.tuple [.int u, .int (s : Int)]) := .tup h (.cons (.int _) (.cons (.int _) .nil))
end
end WP
namespace WP
open PySem PySem.Spec PyProof.Rows L2
abbrev MG := Str → Option Value
/-- the address that a module's name holds -/
def ca (mg : MG) (nm : Str) : Addr := match mg nm with
  | some (.ref a) => a
  | _ => 0
theorem ca_of {mg : MG} {nm : Str} {a : Addr} (h : mg nm = some (.ref a)) : ca mg nm = a := by unfold ca; rw [h]
/-! ### own exceptions without an __init__ of their own -/
structure ExcAt (K : PySem.W.Frag) (C : Addr) : Prop where
  x : PySem.W.excIn K C [.type "ValueError", .type "Exception", .type "BaseException", .type "object"] "ValueError.__new__" = true
  k : PySem.W.keepIn K (.ref C) = true
  t : PySem.W.typeIn K (.ref C) = some (.type "type")
  c : ExcC K C
structure ExcOk (K : PySem.W.Frag) (mg : MG) (nm : Str) : Prop where
  m : mg nm = some (.ref (ca mg nm))
  a : ExcAt K (ca mg nm)
theorem ExcOk.mk' {K : PySem.W.Frag} {mg : MG} {nm : Str} {C : Addr} (h : mg nm = some (.ref C)) (x : ExcAt K C) : ExcOk K mg nm := by
  have e := ca_of h
  exact ⟨by rw [e]; exact h, by rw [e]; exact x⟩
theorem ExcAt.raises {X : Cx} {C : Addr} (x : ExcAt X.K C) : Raises X (.ref C) := raises_own x.c.hs x.t
theorem ExcAt.catches {K : PySem.W.Frag} {C : Addr} (x : ExcAt K C) {cls : Value} {b : Bool} (h : PySem.W.subIn K cls (.ref C) = some b) : PySem.W.exmOne K cls (.ref C) = some b := PySem.W.exm_ref x.c.hs x.c.hd x.t h
section
variable {X : Cx} {x m : Str} {j : Nat} {p p2 pos pos2 : Pos} {W : WX}
theorem ps_raiseC (hc : X.calm = true) (tk : Takes X W) (e : ExcOk X.K X.mg x) (hg : Gl X x) (hdb : (x == ("__debug__" : Str)) = false := by decide) :
    PS X (.Raise (some (.Call (.Name x p) [.Constant (.str m) j p2] [] pos)) none pos2) (fun _ σ H => W (.ref (ca X.mg x)) none σ H) :=
  ps_raise hc tk (pmk_own PySem.F.excBase_ValueError e.a.x e.m e.a.k e.a.raises hg hdb)
end
/-- isinstance of the caught error -/
def rIsX (K : PySem.W.Frag) (a : Addr) (cls : Value) (d : Option Addr) : List V → Hp → VK → Prop := fun xs H Q => ∃ D, cls = .ref D ∧ d = none ∧ ExcC K D ∧ rIsE K D a xs H Q
theorem call_isX {X : Cx} {a : Addr} {oe : Obj} {cls : Value} {d : Option Addr} {pn : List (Addr × Obj)} (hz : Zc cls d oe) (hf : ∃ vs, oe.data = .fields vs) : CallR (X.suite a ((a, oe) :: pn)) (.builtin "isinstance") (rIsX X.K a cls d) := by
  intro pins s σ H xs us Q I r h
  obtain ⟨D, rfl, rfl, c, h⟩ := h
  exact call_isE c hz hf pins s σ H xs us Q I r h
theorem isX {K : PySem.W.Frag} {a D C : Addr} {b : Bool} {H : Hp} {Q : VK} (c : ExcC K D) (h : PySem.W.kitOne K (.ref D) (.ref C) = some b) (q : Q (.bl b) H) : rIsX K a (.ref D) none [.ref a, .ref C] H Q :=
  ⟨D, rfl, rfl, c, .ref C, .ref C, b, rfl, fun _ r => r, h, q⟩
section
variable {X : Cx} {CX' : CXT} {k j : Nat} {ps : List Str} {sp : Sp} {E : L2.St → XK} {E0 : XK} {x : Str} {p pos : Pos} {e : Expr} {es : List Expr} {t : TA}
theorem pe_callSC (C : Callee X.prog X.w X.K X.mg X.base (L2.CX X.prog X.w) k x ps sp) (hr : Room j X.A) (hg : Gl X x) (hx : ∀ σ, PassesAt (L2.CX X.prog X.w) X σ (E σ)) (ha : PA X (e :: es) t) (hl : k ≤ j := by decide)
    (hdb : (x == ("__debug__" : Str)) = false := by decide) (he : starEach (e :: es) X.env = (false, eval e X.env) :: starEach es X.env := by rfl) (hpl : (backTo pos (starEach es X.env)).any (·.1) = false := by rfl) :
    PE X (.Call (.Name x p) (e :: es) [] pos) (tCallS sp E t) := by
  obtain ⟨f, fd, F, hm, hk, hb⟩ := C.ex
  exact pe_callS F (hr.mono hl) hg hm hk hb hx ha hdb he hpl
/-- what a callee lets out leaves this def too -/
theorem passX {E : XK} {E₁ : Value → Shared → Prop} (hs : X.stack = X.env :: X.outer) (hf : X.env.frame = some X.env.locals) (hex : X.ex = [])
    (hx : X.xe = fun e s' => wpAny (model X.prog X.w) X.A (leaving X.env e) (fun _ s'' => L2.CX X.prog X.w X.outer X.H_0 X.s_0 E e s'') E₁ s') : Passes (L2.CX X.prog X.w) X E :=
  fun pins σ H s e s' I c => passes_call (takes_of hs hf hex hx) (fun _ _ _ _ z => z) pins σ H s e s' I c
end
theorem callS {sp : Sp} {E : L2.St → XK} {a : TA} {σ : L2.St} {H : Hp} {Q : VK} (h : a σ H fun vs H1 => sp vs H1 Q (E σ)) : tCallS sp E a σ H Q := h
end WP
namespace WP
open PySem PySem.Spec PyProof.Rows L2
def rDivmodW : List V → Hp → VK → Prop := fun xs H Q => ∃ i j, xs = [.int i, .int j] ∧ CDivP i j ∧ ∀ p, H p = none → Q (.ref p) (upd H p (.tup [.int (i / j), .int (i % j)]))
theorem c_divmodW {X : Cx} : CallR X (.builtin "divmod") rDivmodW := call_divmodW
theorem Bt.p {i j : Int} {a : Nat} (h : Bt i a) (hj : 0 < j) (l : a ≤ 4000 := by omega) : CDivP i j := divp_ok hj (by have := intBits_le h; omega)
theorem divW {i j : Int} {H : Hp} {Q : VK} (c : CDivP i j) (q : ∀ p, H p = none → Q (.ref p) (upd H p (.tup [.int (i / j), .int (i % j)]))) : rDivmodW [.int i, .int j] H Q := ⟨i, j, rfl, c, q⟩
end WP
namespace WP
open PySem PySem.Spec PyProof.Rows L2
/-- a callee that raises, called where it does not -/
theorem pass0X {X : Cx} : Passes (L2.CX X.prog X.w) X (fun _ _ _ => False) := fun pins σ H s e s' I c => passes_call (W := fun _ _ _ _ => False) takes0 (fun _ _ _ _ z => z) pins σ H s e s' I c
end WP
namespace WP
open PySem PySem.Spec PyProof.Rows L2
/-- no star -/
def noStar : Expr → Bool
  | .Starred _ _ => false
  | _ => true
theorem starEach_no {e : Expr} {es : List Expr} {env : Env} (h : noStar e = true) : starEach (e :: es) env = (false, eval e env) :: starEach es env := by
  cases e with
  | Starred a b => cases h
  | _ => rfl
theorem pa_consN {X : Cx} {e : Expr} {es : List Expr} {te : TE} {t : TA} (ha : PE X e te) (hr : PA X es t) (hs : noStar e = true := by rfl) : PA X (e :: es) (tCons te t) := pa_cons ha hr (starEach_no hs)
end WP

namespace WP
open PySem PySem.Spec PyProof.Rows L2
open SX (S S_len S_cat)
section
variable {X : Cx}
theorem pe_strL {x : Str} {j pos} (l : List Nat) (h : x = S l) : PE X (.Constant (.str x) j pos) (tC (.str (S l))) := by subst h; exact pe_str
/-- text * number -/
def rMulS : R2 := fun x y H Q => ∃ (a : Str) (i : Int), x = .str a ∧ y = .int i ∧ MulOk a i ∧ Q (.str (Txt.mul a i)) H
theorem op_mul_str : OpR X (binaryOp .Mult) rMulS := by
  intro pins s σ H x y v u Q I rx ry h
  obtain ⟨a, i, rfl, rfl, hz, q⟩ := h
  obtain ⟨t, rfl⟩ := rx
  obtain ⟨t', rfl⟩ := ry
  exact SB.mul hz fun t' k => ⟨.str _, H, I.tok _, ⟨_, rfl⟩, q⟩
def rAddS : R2 := fun x y H Q => ∃ (a b : Str), x = .str a ∧ y = .str b ∧ a.length + b.length ≤ sizeLine ∧ Q (.str (a ++ b)) H
theorem op_addS : OpR X (binaryOp .Add) rAddS := op_add_str
def rZfill : V → List V → Hp → VK → Prop := fun x xs H Q => ∃ (a : Str) (i : Int), x = .str a ∧ xs = [.int i] ∧ PadOk i = true ∧ Q (.str (Txt.zfill a i)) H
theorem m_zfill : MtR X "str.zfill" rZfill := mt_zfill
def rIntS : List V → Hp → VK → Prop := fun xs H Q => ∃ (a : Str) (n : Int), xs = [.str a] ∧ PySem.intText? a = some n ∧ a.length ≤ 640 ∧ Q (.int n) H
theorem c_intS : CallR X (.type "int") rIntS := call_int_str
end
section
variable {a b l : List Nat} {i : Int} {H : Hp} {Q : VK}
theorem catS (q : Q (.str (S (a ++ b))) H) (h : a.length + b.length ≤ sizeLine := by size_fits) : rAddS (.str (S a)) (.str (S b)) H Q := ⟨_, _, rfl, rfl, by rw [S_len, S_len]; exact h, by rw [S_cat]; exact q⟩
theorem reps1 (c : Nat) : ∀ (k : Nat) (acc : Array Nat), ((List.replicate k #[c]).foldl (· ++ ·) acc) = (acc.toList ++ List.replicate k c).toArray
  | 0, acc => by simp
  | k + 1, acc => by
    rw [List.replicate_succ, List.foldl_cons, reps1 c k]
    simp [List.replicate_succ]
theorem mul_S (c : Nat) (i : Int) : Txt.mul (S [c]) i = S (List.replicate i.toNat c) := by
  unfold Txt.mul
  split
  · rename_i h
    rw [show i.toNat = 0 by omega]; rfl
  · rename_i h
    split
    · rename_i h2
      have : i = 1 := by
        rw [Bool.or_eq_true] at h2
        rcases h2 with h2 | h2
        · exact eq_of_beq h2
        · exact absurd h2 (by rw [S_len]; exact Bool.false_ne_true)
      subst this
      rfl
    · show (⟨(List.replicate i.toNat #[c]).foldl (· ++ ·) #[]⟩ : Str) = _
      rw [reps1]; simp [S]
theorem mulOk1 (c : Nat) {i : Int} (h : i ≤ 100000) (h2 : -100000 ≤ i) : MulOk (S [c]) i := by
  refine ⟨by rw [decide_eq_false (by omega), decide_eq_false (by omega)]; rfl, fun h1 _ => ?_, fun h1 _ => ?_⟩
  · rw [S_len]
    show ¬ (((1 : Nat) : Int) > _)
    have : (1 : Int) ≤ (2 ^ 63 - 1) / i := by
      rw [Int.le_ediv_iff_mul_le (by omega)]; omega
    omega
  · rw [S_len]
    unfold Builtin.Str.tooLong
    exact decide_eq_false (by rw [sizeLine_eq]; show ¬ (1 * i.toNat > _); omega)
theorem mulS {c : Nat} (h : i ≤ 100000) (h2 : -100000 ≤ i) (q : Q (.str (S (List.replicate i.toNat c))) H) : rMulS (.str (S [c])) (.int i) H Q :=
  ⟨_, _, rfl, rfl, mulOk1 c h h2, by rw [mul_S]; exact q⟩
/-- zfill of a text without a sign -/
theorem zfill_S (h : ∀ c, l.head? = some c → c ≠ 43 ∧ c ≠ 45) (hi : 0 ≤ i) : Txt.zfill (S l) i = S (List.replicate (i.toNat - l.length) 48 ++ l) := by
  unfold Txt.zfill
  rw [S_len]
  split
  · rename_i h1
    rw [show i.toNat - l.length = 0 by omega]; rfl
  · unfold PySem.zfilled
    have e : (S l).cps[0]? = l.head? := by simp [S, List.head?_eq_getElem?]
    rw [e]
    have fin : Builtin.Str.padded (S l) (i.toNat - l.length) 0 48 = S (List.replicate (i.toNat - l.length) 48 ++ l) := by
      unfold Builtin.Str.padded
      simp [S]
    split
    · rename_i hc; exact absurd rfl (h _ hc).1
    · rename_i hc; exact absurd rfl (h _ hc).2
    · exact fin
theorem zfillS (h : ∀ c, l.head? = some c → c ≠ 43 ∧ c ≠ 45) (hi : 0 ≤ i) (h2 : i ≤ 100000) (q : Q (.str (S (List.replicate (i.toNat - l.length) 48 ++ l))) H) : rZfill (.str (S l)) [.int i] H Q :=
  ⟨_, _, rfl, rfl, by unfold PadOk fitsSsize; rw [decide_eq_false (by omega), decide_eq_false (by omega)]; unfold Builtin.Str.tooLong; rw [decide_eq_false (by rw [sizeLine_eq]; omega)]; rfl, by rw [zfill_S h hi]; exact q⟩
theorem lenS' (h : l.length ≤ sizeLine) (q : Q (.int (l.length : Int)) H) {K : PySem.W.Frag} : rLen K [V.str (S l)] H Q := ⟨_, _, rfl, ⟨by rw [S_len]; exact h, rfl⟩, by rw [S_len]; exact q⟩
theorem strN {n : Nat} (h : n.log2 < 1920) (q : Q (.str (S (TL.numL n))) H) : rStrI [V.int (n : Int)] H Q := ⟨_, rfl, by rw [Int.natAbs_natCast]; exact h, by
  have e : Str.ofString (toString ((n : Nat) : Int)) = S (TL.numL n) := SX.num_S n
  rw [e]; exact q⟩
theorem intSd (h : l.all (fun c => decide (48 ≤ c) && decide (c ≤ 57)) = true) (hne : l ≠ []) (hl : l.length ≤ 640) (q : Q (.int ((NumText.digitsVal l : Nat) : Int)) H) : rIntS [V.str (S l)] H Q :=
  ⟨_, _, rfl, SX.int_S h hne (by omega), by rw [S_len]; exact hl, q⟩
theorem slS {lo hi : Option Int} (z : Str) (h : z.length ≤ sizeLine) (q : Q (.str (Txt.slice z lo hi)) H) : rSlS (.str z) lo hi H Q := ⟨z, rfl, h, by rw [C8.cutS_slice]; exact q⟩
theorem slTo (hi : 0 ≤ i) (h : l.length ≤ sizeLine) (q : Q (.str (S (l.take i.toNat))) H) : rSlS (.str (S l)) none (some i) H Q := slS _ (by rw [S_len]; exact h) (by rw [SX.slice_to hi]; exact q)
theorem slFrom (hi : 0 ≤ i) (h : l.length ≤ sizeLine) (q : Q (.str (S (l.drop i.toNat))) H) : rSlS (.str (S l)) (some i) none H Q := slS _ (by rw [S_len]; exact h) (by rw [SX.slice_from hi]; exact q)
/-- an index from the end -/
theorem idx_neg_hi {l1 : Option Int} {n : Nat} {i : Int} (h : i < 0) (h2 : 0 ≤ i + n) : Builtin.Str.strSliceIndices l1 (some i) 1 n = Builtin.Str.strSliceIndices l1 (some (i + n)) 1 n := by
  have h1 : ¬ (i + n < 0) := by omega
  simp only [Builtin.Str.strSliceIndices, h, h1, if_false, if_true]
theorem idx_neg_lo {l1 : Option Int} {n : Nat} {i : Int} (h : i < 0) (h2 : 0 ≤ i + n) : Builtin.Str.strSliceIndices (some i) l1 1 n = Builtin.Str.strSliceIndices (some (i + n)) l1 1 n := by
  have h1 : ¬ (i + n < 0) := by omega
  simp only [Builtin.Str.strSliceIndices, h, h1, if_false, if_true]
theorem slice_toN (h : i < 0) (h2 : 0 ≤ i + (l.length : Int)) : Txt.slice (S l) none (some i) = S (l.take (i + (l.length : Int)).toNat) := by
  rw [← SX.slice_to h2]
  unfold Txt.slice
  rw [S_len, idx_neg_hi h h2]
theorem slice_fromN (h : i < 0) (h2 : 0 ≤ i + (l.length : Int)) : Txt.slice (S l) (some i) none = S (l.drop (i + (l.length : Int)).toNat) := by
  rw [← SX.slice_from h2]
  unfold Txt.slice
  rw [S_len, idx_neg_lo h h2]
theorem slToN (hi : i < 0) (h2 : 0 ≤ i + (l.length : Int)) (h : l.length ≤ sizeLine) (q : Q (.str (S (l.take (i + (l.length : Int)).toNat))) H) : rSlS (.str (S l)) none (some i) H Q := slS _ (by rw [S_len]; exact h) (by rw [slice_toN hi h2]; exact q)
theorem slFromN (hi : i < 0) (h2 : 0 ≤ i + (l.length : Int)) (h : l.length ≤ sizeLine) (q : Q (.str (S (l.drop (i + (l.length : Int)).toNat))) H) : rSlS (.str (S l)) (some i) none H Q := slS _ (by rw [S_len]; exact h) (by rw [slice_fromN hi h2]; exact q)
theorem eqTS {a b : List Nat} (h : Q (.bl (decide (a = b))) H) : rEq (.str (S a)) (.str (S b)) H Q := ⟨rfl, by
  have e : decide ((S a : Str) = S b) = decide (a = b) := by
    by_cases h : a = b
    · subst h; rw [decide_eq_true rfl, decide_eq_true rfl]
    · rw [decide_eq_false h, decide_eq_false fun z => h (SX.S_inj z)]
  rw [dec_str, e]; exact h⟩
theorem neTS {a b : List Nat} (h : Q (.bl (!decide (a = b))) H) : rNe (.str (S a)) (.str (S b)) H Q := ⟨rfl, by
  have e : decide ((S a : Str) = S b) = decide (a = b) := by
    by_cases h : a = b
    · subst h; rw [decide_eq_true rfl, decide_eq_true rfl]
    · rw [decide_eq_false h, decide_eq_false fun z => h (SX.S_inj z)]
  rw [dec_str, e]; exact h⟩
/-- range with a step -/
theorem rng3 {ta : TA} {σ : L2.St} {R : It → Hp → Prop} (h : ta σ H fun vs H1 => ∃ (i j c : Int) (n : Nat), vs = [.int i, .int j, .int c] ∧ RgC i j c n ∧ R (Itc i c n) H1) : iRng3 ta σ H R := h
end
/-! ### the figures of a number -/
/-- k figures of n -/
def padL : Nat → Nat → List Nat
  | 0, _ => []
  | k + 1, n => padL k (n / 10) ++ [48 + n % 10]
theorem padL_len : ∀ k n, (padL k n).length = k
  | 0, _ => rfl
  | k + 1, n => by unfold padL; rw [List.length_append, padL_len]; rfl
theorem numL_app : ∀ (k q r : Nat), 0 < q → r < 10 ^ k → TL.numL (q * 10 ^ k + r) = TL.numL q ++ padL k r
  | 0, q, r, _, hr => by
    have : r = 0 := by simp at hr; exact hr
    subst this
    simp [padL]
  | k + 1, q, r, hq, hr => by
    have e10 : 10 ^ (k + 1) = 10 ^ k * 10 := Nat.pow_succ ..
    have hp : 0 < 10 ^ k := Nat.pow_pos (by decide)
    have b : 10 ≤ q * 10 ^ (k + 1) + r := by
      have : 1 * 10 ^ (k + 1) ≤ q * 10 ^ (k + 1) := Nat.mul_le_mul_right _ hq
      omega
    have d : (q * 10 ^ (k + 1) + r) / 10 = q * 10 ^ k + r / 10 := by
      rw [e10, ← Nat.mul_assoc]; omega
    have m : (q * 10 ^ (k + 1) + r) % 10 = r % 10 := by
      rw [e10, ← Nat.mul_assoc]; omega
    rw [TL.numL_step b, d, m, numL_app k q (r / 10) hq (by omega)]
    rw [show padL (k + 1) r = padL k (r / 10) ++ [48 + r % 10] from rfl, List.append_assoc]
theorem padL_zero : ∀ k, padL k 0 = List.replicate k 48
  | 0 => rfl
  | k + 1 => by unfold padL; rw [show 0 / 10 = 0 from rfl, padL_zero k, List.replicate_succ']
theorem padL_num : ∀ (k n : Nat), 0 < k → n < 10 ^ k → padL k n = List.replicate (k - (TL.numL n).length) 48 ++ TL.numL n
  | k + 1, n, _, h => by
    by_cases c : n < 10
    · rw [TL.numL_lt c]
      unfold padL
      rw [show n / 10 = 0 by omega, padL_zero, show n % 10 = n by omega]
      rfl
    · have hk : 0 < k := by
        rcases k with _ | k
        · simp at h; omega
        · omega
      have e10 : 10 ^ (k + 1) = 10 ^ k * 10 := Nat.pow_succ ..
      rw [TL.numL_step (by omega)]
      unfold padL
      rw [padL_num k (n / 10) hk (by omega), List.length_append, List.append_assoc]
      congr 2
      simp
theorem numL_head {n c : Nat} (h : (TL.numL n).head? = some c) : c ≠ 43 ∧ c ≠ 45 := by
  have m : c ∈ TL.numL n := List.mem_of_head? h
  have := TL.numL_digits n c m
  omega
theorem digits_rep (n : Nat) : NumText.digitsVal (49 :: List.replicate n 48) = 10 ^ n := by
  unfold NumText.digitsVal
  rw [List.foldl_cons]
  have : ∀ (n a : Nat), (List.replicate n 48).foldl (fun acc c => acc * 10 + (c - 48)) a = a * 10 ^ n := by
    intro n
    induction n with
    | zero => intro a; simp
    | succ n ih => intro a; rw [List.replicate_succ, List.foldl_cons, ih, Nat.pow_succ]; rw [Nat.sub_self, Nat.add_zero, Nat.mul_assoc, Nat.mul_comm 10]
  rw [this]; simp
end WP
namespace WP
open PySem PySem.Spec PyProof.Rows L2
section
variable {K : PySem.W.Frag} {σ : L2.St} {H : Hp} {Q : VK} {x v : V} {p : Addr} {xs : List V}
theorem bm {T : String} {r : V → List V → Hp → VK → Prop} {to : TE} {t : TA} (h : to σ H fun x H1 => tyV K T x H1 ∧ t σ H1 fun xs H2 => r x xs H2 Q) : tBM K T r to t σ H Q := h
theorem tyS {z : Str} {A : Prop} (q : A) : tyV K "str" (.str z) H ∧ A := ⟨rfl, q⟩
theorem gsub {to ti : TE} {t : TSet} {QS : L2.St → Hp → Prop} (h : to σ H fun o H1 => ti σ H1 fun i H2 => t o i v H2 fun H3 => QS σ H3) : gSub to ti t v σ H QS := h
theorem setL {k : Int} {j : Nat} {R : Hp → Prop} (hp : H p = some (.lst xs)) (hj : ixN xs.length k = some j) (q : R (upd H p (.lst (xs.set j v)))) : rSetL (.ref p) (.int k) v H R := ⟨p, xs, k, j, rfl, rfl, hp, hj, q⟩
theorem appL (hp : H p = some (.lst xs)) (hz : xs.length < sizeLine) (q : Q .non (upd H p (.lst (xs ++ [v])))) : rAppend (.ref p) [v] H Q := ⟨p, xs, v, rfl, rfl, hp, hz, q⟩
theorem tyL {A : Prop} (hp : SqL K H p xs) (q : A) : tyV K "list" (.ref p) H ∧ A := ⟨.inl ⟨rfl, xs, hp⟩, q⟩
theorem tyT (h : SqT K H p xs) : TyX K H (.ref p) (.type "tuple") := by
  rcases h with (h | ⟨o, h⟩) | h
  · exact .base (.tup h)
  · exact .fTuple h
  · obtain ⟨o, its, n, h1, h2, h3⟩ := h
    exact .kTuple h1 h2
/-- all objects but the one at d are kept -/
def Sx (d : Addr) (H H' : Hp) : Prop := ∀ a o, a ≠ d → H a = some o → H' a = some o
theorem Sx.refl {d : Addr} {H : Hp} : Sx d H H := fun _ _ _ e => e
theorem Sx.trans {d : Addr} {H H' H2 : Hp} (h : Sx d H H') (k : Sx d H' H2) : Sx d H H2 := fun a o n e => k a o n (h a o n e)
theorem Sx.of {d : Addr} {H H' : Hp} (h : Same H H') : Sx d H H' := fun a o _ e => h a o e
theorem Sx.upd {d : Addr} {H : Hp} {o : HO} : Sx d H (upd H d o) := fun a u n e => by rw [upd_ne n]; exact e
theorem sqtX {d : Addr} {H H' : Hp} {ys : List V} (e : Sx d H H') (hd : H d = some (.lst ys)) (h : SqT K H p xs) : SqT K H' p xs := by
  rcases h with (h | ⟨o, h⟩) | h
  · exact .inl (.inl (e _ _ (fun z => by rw [z, hd] at h; cases h) h))
  · exact .inl (.inr ⟨o, e _ _ (fun z => by rw [z, hd] at h; cases h) h⟩)
  · exact .inr h
end
end WP
namespace WP
theorem log2_lt {n k : Nat} (hk : 0 < k) (h : n < 2 ^ k) : n.log2 < k := by
  by_cases z : n = 0
  · subst z; exact hk
  · exact (Nat.log2_lt z).mpr h
end WP
namespace WP
open PySem PySem.Spec PyProof.Rows L2
theorem ifSS {c : Prop} [Decidable c] {a b : List Nat} {σ : L2.St} {H : Hp} {Q : VK} (q : Q (.str (SX.S (if c then a else b))) H) : if decide c = true then tC (.str (SX.S a)) σ H Q else tC (.str (SX.S b)) σ H Q := by
  by_cases h : c
  · rw [if_pos (decide_eq_true h)]; rw [if_pos h] at q; exact q
  · rw [if_neg (by rw [decide_eq_false h]; exact Bool.false_ne_true)]; rw [if_neg h] at q; exact q
end WP
namespace WP
open PySem PySem.Spec PyProof.Rows L2
section
variable {K : PySem.W.Frag} {H H' : Hp} {a d : Addr} {xs : List V}
theorem sqlX (e : Sx d H H') (n : a ≠ d) (h : SqL K H a xs) : SqL K H' a xs := by
  rcases h with (h | ⟨o, h⟩) | h
  · exact .inl (.inl (e _ _ n h))
  · exact .inl (.inr ⟨o, e _ _ n h⟩)
  · exact .inr h
end
end WP
namespace WP
open PySem PySem.Spec PyProof.Rows L2
/-- a text that may stand in data -/
def SOk (z : Str) : Prop := (PyData.str z).canLay0 = true
theorem SOk.sh {z : Str} (h : SOk z) : SeqAt.shaped (.str z) = true := Bool.and_eq_true_iff.mpr ⟨h, rfl⟩
theorem sok_S {l : List Nat} (h : ∀ c ∈ l, c < 1114112) : SOk (SX.S l) := by
  show (SX.S l).cps.all (· < 0x110000) = true
  rw [← Array.all_toList]
  exact List.all_eq_true.mpr fun c hc => decide_eq_true (h c hc)
end WP
namespace WP
open PySem PySem.Spec PyProof.Rows L2
theorem rg9 {j : Int} (h1 : 1 ≤ j) (h2 : j ≤ 1000) : RgC 0 j 9 ((j - 1) / 9 + 1).toNat := by
  have e : Builtin.Range.rangeSize 0 j 9 = (j - 1) / 9 + 1 := by
    unfold Builtin.Range.rangeSize
    rw [if_pos (by decide), if_pos (by omega), show j - 0 - 1 = j - 1 by omega]
  refine ⟨by decide, by decide, ?_, by rw [e]; omega⟩
  unfold Builtin.Range.small
  rw [e]
  simp only [Builtin.Range.rangeFitsLong, Bool.and_eq_true, Bool.or_eq_true, decide_eq_true_eq, beq_iff_eq]
  simp
  omega
end WP

namespace WJ
open PySem PySem.W PySem.Calls PyProof.Rows PySem.SC
section
variable {prog : Program} {w : World} {A : Around} {E : Value → Shared → Prop} {s : Shared}
/-- x.join(reversed(a list)): the walk backwards is collected, then glued -/
theorem join_rev {x : Str} {t : Tok} {ys : List Str} {it l : Addr} {its : Array Value} {Q : Value → Shared → Prop} (hh : A.handled = none)
    (hi : s.heap.IsRevIter it l ((its.size : Int) - 1)) (hl : s.heap.IsList l its) (ne : l ≠ it) (hn : its.size ≤ sizeLine)
    (hy : ∀ acc : Array Value, ItemsOf (fun i v => its[its.size - 1 - i]? = some v) acc its.size → StrsAre acc.toList ys) (fit : (ys.map (·.length)).sum + ys.length * x.length ≤ 16777216)
    (done : ∀ (h' : Heap) (t' : Tok) (k : Nat), (∀ b o, b ≠ it → s.heap.get? b = some o → h'.get? b = some o) → Q (.str (Txt.join x ys) t') { s with heap := h', toks := k }) :
    wpAny (model prog w) A (call (.builtin "str.join") [.str x t, .ref it]) Q E s := by
  have T : s.TypeIs (.ref it) "list_reverseiterator" := Heap.IsRevIter.typeIs hi
  refine wpAny_call (codeAny_call_builtin F.slot_str_join.plain F.entry_str_join ?_)
  refine F.slot_str_join.check _ _ _ _ _ _ _ _ (typeIs_str _ _ _) (F.args_str_join_2 _ _) ?_
  rw [join_tree_other]
  refine wpAny_bind (wpAny_typeOf T ?_)
  show wpAny _ A.in1 ((pyIter (.ref it)).tryCatch _ >>= fun j => collect j >>= fun zs => joinTail x zs) _ _ s
  refine wpAny_bind (wpAny_tryCatch (wpAny_pyIter_revIter hi ?_))
  refine wpAny_bind (RT.collect_rev hh hi hl ne hn fun h' k acc kept got => ?_)
  obtain ⟨ts, et, ey⟩ := strsAre_values (hy acc got)
  subst ey
  rw [et]
  have ok := joinOk_of fit
  unfold JoinOk at ok
  rw [Bool.not_eq_true'] at ok
  have G : Gives (joinTail x (strValues ts)) (joinMade x ts) := by
    rcases ts with _ | ⟨_, _ | ⟨_, _⟩⟩ <;> exact gives_joinTail x _ ok
  refine G prog w A (wants Q E) { s with heap := h', toks := k } (post_join ts ⟨joinFit_length ok, fun t' k' => ?_⟩)
  exact done h' t' k' kept
end
end WJ
namespace WP
open PySem PySem.Spec PyProof.Rows L2
/-- sep.join(reversed(xs)), xs a list of texts -/
def tJoinRev (K : PySem.W.Frag) (to te : TE) : TE := fun σ H Q => to σ H fun x H1 => (∃ a, x = .str a) ∧ te σ H1 fun v H2 => ∃ (a : Str) (q : Addr) (ys : List Str),
  x = .str a ∧ v = .ref q ∧ SqL K H2 q (ys.map V.str) ∧ ((ys.map (·.length)).sum + ys.length * a.length ≤ 16777216) ∧ Q (.str (Txt.join a ys.reverse)) H2
theorem pe_joinRev {X : Cx} {o e : Expr} {to te : TE} {apos pos p2 pos2 : Pos} (hc : X.calm = true) (ho : PE X o to) (hg : Gl X "reversed") (hm : X.mg "reversed" = none) (he : PE X e te)
    (hs1 : starEach [.Call (.Name "reversed" p2) [e] [] pos2] X.env = [(false, eval (.Call (.Name "reversed" p2) [e] [] pos2) X.env)] := by rfl)
    (hs : starEach [e] X.env = (false, eval e X.env) :: starEach [] X.env := by rfl)
    (hbase : attributeBase o "join" X.env (eval o X.env) = eval o X.env := by rfl) (hline : (apos.endLine == pos.line) = true := by rfl) :
    PE X (.Call (.Attribute o "join" apos) [.Call (.Name "reversed" p2) [e] [] pos2] [] pos) (tJoinRev X.K to te) := by
  refine ⟨fun pins s σ H Q I h => ?_⟩
  refine PySem.Call_method1 hbase hs1 hline (thn (ho.run pins s σ H _ I h) fun v s1 ⟨x, H1, I1, r1, q1⟩ => ?_)
  obtain ⟨⟨a, rfl⟩, q1⟩ := q1
  obtain ⟨t, rfl⟩ := _root_.id r1
  refine ⟨"str", _, F.plainAttrs_str, F.slot_str_join, F.type_str_join, typeIs_str _ _ _, (fun _ e => nomatch e), Calls.callWith_builtin rfl (Calls.evalArgs_plain (Calls.spliced_cons ?_))⟩
  refine Call_ (ld_blt I1 hg hm PyProof.Rows.boot_reversed (PyProof.Rows.callWith_type1 (args_cons (thn (he.run pins s1 σ H1 _ I1 q1) fun u s2 ⟨v2, H2, I2, r2, q2⟩ => args_nil ?_) hs) hs rfl))
  obtain ⟨a', q, ys, ea, ev, hq, hz, q2⟩ := q2
  cases ea
  subst ev
  obtain rfl : u = Value.ref q := r2
  obtain ⟨its, rv, pl, hsz⟩ := I2.list hq
  refine call_reversed_list pl.isList (Calls.spliced_nil ?_)
  have k0 : ∀ b o, s2.heap.get? b = some o → (s2.heap.push (revObj q ((its.toArray.size : Int) - 1))).get? b = some o := fun b o e => Heap.get?_push_of_some _ e
  have I3 : Inv X pins σ H2 { s2 with heap := s2.heap.push (revObj q ((its.toArray.size : Int) - 1)) } := I2.kept (t' := s2.toks) k0
  obtain ⟨f0, f1, f2, f3, f4, f5⟩ := I2.fpOk (H' := H2) (b := s2.heap.objs.size) (Nat.le_refl _) (I2.hok.fresh (Nat.le_refl _))
  have hl := pl.isList
  obtain ⟨ol, hol, _⟩ := _root_.id hl
  refine WJ.join_rev (s := { s2 with heap := s2.heap.push (revObj q ((its.toArray.size : Int) - 1)) }) (ys := ys.reverse) (I2.ok.hd hc) ⟨_, Heap.get?_push_size _ rfl, rfl, rfl⟩ (hl.push _) (Nat.ne_of_lt (Heap.lt_size hol))
    (by rw [List.size_toArray, ← rv.length]; exact hsz) (fun acc hacc => ?_) (by rw [List.map_reverse, List.sum_reverse, List.length_reverse]; exact hz) fun h' t' k hk => ?_
  · have z := RT.vals_rev rv hacc
    rw [← List.map_reverse] at z
    exact strs_of_vals z
  · exact ⟨.str _, H2, I3.turned (t' := k) (fun b o hb e => hk b o hb e) f0 f1 f3 f4 f5, ⟨t', rfl⟩, q2⟩
end WP
namespace WP
open PySem PySem.Spec PyProof.Rows L2
theorem jr {K : PySem.W.Frag} {to te : TE} {σ : L2.St} {H : Hp} {Q : VK} (h : to σ H fun x H1 => (∃ a, x = .str a) ∧ te σ H1 fun v H2 => ∃ (a : Str) (q : Addr) (ys : List Str),
  x = .str a ∧ v = .ref q ∧ SqL K H2 q (ys.map V.str) ∧ ((ys.map (·.length)).sum + ys.length * a.length ≤ 16777216) ∧ Q (.str (Txt.join a ys.reverse)) H2) : tJoinRev K to te σ H Q := h
theorem joinL_nil : ∀ l : List (List Nat), TL.joinL [] l = l.flatten
  | [] => rfl
  | [p] => by simp [TL.joinL]
  | p :: q :: r => by rw [TL.joinL, joinL_nil (q :: r)]; simp
theorem join_nilS (ys : List (List Nat)) : Txt.join (SX.S []) (ys.map SX.S) = SX.S ys.flatten := by rw [SX.join_S, joinL_nil]
end WP

namespace WP
open PySem PySem.Spec PyProof.Rows L2
open SX (S S_len S_cat)
/-! ### tuples and dicts of the module -/
structure KTp (K : PySem.W.Frag) (mg : MG) (nm : Str) (xs : List V) : Prop where
  m : mg nm = some (.ref (ca mg nm))
  s : ∀ H, SqT K H (ca mg nm) xs
theorem KTp.mk' {K : PySem.W.Frag} {mg : MG} {nm : Str} {C : Addr} {xs : List V} (h : mg nm = some (.ref C)) (x : ∀ H, SqT K H C xs) : KTp K mg nm xs := by
  have e := ca_of h
  exact ⟨by rw [e]; exact h, by rw [e]; exact x⟩
structure KDc (K : PySem.W.Frag) (w : World) (mg : MG) (nm : Str) (l : List (Str × V)) : Prop where
  m : mg nm = some (.ref (ca mg nm))
  s : ∀ p ∈ l, KDct K w (ca mg nm) p.1 p.2
theorem KDc.mk' {K : PySem.W.Frag} {w : World} {mg : MG} {nm : Str} {C : Addr} {l : List (Str × V)} (h : mg nm = some (.ref C)) (x : ∀ p ∈ l, KDct K w C p.1 p.2) : KDc K w mg nm l := by
  have e := ca_of h
  exact ⟨by rw [e]; exact h, by rw [e]; exact x⟩
theorem kdc_cons {K : PySem.W.Frag} {w : World} {C : Addr} {k : Str} {v : V} {l : List (Str × V)} (h : KDct K w C k v) (t : ∀ p ∈ l, KDct K w C p.1 p.2) : ∀ p ∈ (k, v) :: l, KDct K w C p.1 p.2 := fun p hp => by
  rcases List.mem_cons.mp hp with e | e
  · subst e; exact h
  · exact t p e
section
variable {X : Cx}
theorem pe_ktup {x : Str} {xs : List V} {pos : Pos} (hg : Gl X x) (h : KTp X.K X.mg x xs) (hd : (x == ("__debug__" : Str)) = false := by decide) : PE X (.Name x pos) (tC (.ref (ca X.mg x))) := pe_glob hg h.m rfl hd
def rUpper : V → List V → Hp → VK → Prop := fun x xs H Q => ∃ a, x = .str a ∧ xs = [] ∧ a.length ≤ 5592405 ∧ Q (.str (Txt.upper a)) H
theorem m_upper : MtR X "str.upper" rUpper := mt_upper
theorem pe_dgetD {o e f : Expr} {td ty tx : TE} {apos cpos : Pos} (hu : X.A.units + 1 < cLine) (ho : PE X o td) (he : PE X e ty) (hf : PE X f tx) (m : M2 X o "get" apos e f cpos) : PE X (.Call (.Attribute o "get" apos) [e, f] [] cpos) (tDGet2 td ty tx) :=
  pe_dget2 hu ho he hf m
end
section
variable {K : PySem.W.Frag} {w : World} {σ : L2.St} {H : Hp} {Q : VK} {l : List Nat} {i : Int} {c : Nat}
theorem ixS1 (a : atI l i = some c) (hz : l.length ≤ sizeLine) (q : Q (.str (S [c])) H) : rIxS (.str (S l)) (.int i) H Q := ⟨S l, i, c, rfl, rfl, by rw [S_len]; exact hz, a, q⟩
theorem wstr {te : TE} {R : It → Hp → Prop} (h : te σ H fun v H1 => ∃ x, v = .str x ∧ R (Its x) H1) : iStr te σ H R := h
theorem upS (h : l.all (· < 128) = true) (hl : l.length ≤ 1000) (q : Q (.str (S (l.map up1))) H) : rUpper (.str (S l)) [] H Q := ⟨_, rfl, rfl, by rw [S_len]; omega, by rw [SX.upper_S h]; exact q⟩
theorem inV_S {s : List Nat} : ∀ {ls : List (List Nat)}, inV (.str (S s)) (ls.map fun a => V.str (S a)) = decide (s ∈ ls)
  | [] => rfl
  | a :: ls => by
    show (eqV (.str (S a)) (.str (S s)) || inV (.str (S s)) (ls.map fun a => V.str (S a))) = _
    rw [inV_S]
    show ((S a == S s) || _) = _
    rw [SX.S_beq_eq]
    by_cases h : a = s
    · subst h; simp
    · rw [decide_eq_false h, Bool.false_or]
      congr 1
      exact propext ⟨fun z => List.mem_cons_of_mem _ z, fun z => by
        rcases List.mem_cons.mp z with z | z
        · exact absurd z.symm h
        · exact z⟩
theorem flat_S : ∀ (ls : List (List Nat)), (ls.map fun a => V.str (S a)).all flatV = true
  | [] => rfl
  | a :: ls => flat_S ls
/-- a text in a tuple, a list of texts -/
theorem inT (ls : List (List Nat)) {p : Addr} {xs : List V} {s : List Nat} (h : SqT K H p xs) (e : xs = ls.map fun a => V.str (S a)) (q : Q (.bl (decide (s ∈ ls))) H) : rIn K false (.str (S s)) (.ref p) H Q := by
  subst e
  exact ⟨p, _, rfl, .inr h, rfl, flat_S ls, by rw [inV_S]; exact q⟩
theorem inL (ls : List (List Nat)) {p : Addr} {xs : List V} {s : List Nat} (h : SqL K H p xs) (e : xs = ls.map fun a => V.str (S a)) (q : Q (.bl (decide (s ∈ ls))) H) : rIn K false (.str (S s)) (.ref p) H Q := by
  subst e
  exact ⟨p, _, rfl, .inl h, rfl, flat_S ls, by rw [inV_S]; exact q⟩
/-- a sign in a text -/
def rInSign : R2 := fun x y H Q => ∃ (c : Nat) (z : Str), x = .str ⟨#[c]⟩ ∧ y = .str z ∧ Q (.bl (decide (c ∈ z.cps.toList))) H
theorem op_inSign {X : Cx} : OpR X (compareOp .In) rInSign := op_in_sign
theorem inSign (q : Q (.bl (decide (c ∈ l))) H) : rInSign (.str (S [c])) (.str (S l)) H Q := ⟨c, S l, rfl, rfl, q⟩
theorem ixK {nm : Str} {mg : MG} {ls : List (Str × V)} {s : Str} {v : V} (h : KDc K w mg nm ls) (m : (s, v) ∈ ls) (q : Q v H) : rIxD K w (.ref (ca mg nm)) (.str s) H Q := ⟨_, _, _, rfl, rfl, h.s _ m, q⟩
/-- displays of one and two pairs -/
theorem disp1 {a : Str} {v : V} (q : ∀ p, H p = none → Q (.ref p) (upd (upd H p (.dK [])) p (.dK [(.inr a, v)]))) : tDisp [(tC (.str a), tC v)] σ H Q := fun p hp =>
  ⟨upd_same, [(.inr a, v)], rfl, show 1 ≤ 15 by decide, q p hp⟩
theorem disp2 {a b : Str} {v u : V} (ne : ¬ a = b) (q : ∀ p, H p = none → Q (.ref p) (upd (upd H p (.dK [])) p (.dK [(.inr a, v), (.inr b, u)]))) : tDisp [(tC (.str a), tC v), (tC (.str b), tC u)] σ H Q := fun p hp =>
  ⟨upd_same, [(.inr a, v), (.inr b, u)], rfl, show 2 ≤ 15 by decide, by
    have e : mergeK [] [((Sum.inr a : Key), v), ((Sum.inr b : Key), u)] = [((Sum.inr a : Key), v), ((Sum.inr b : Key), u)] := by
      show putK (putK ([] : List (Key × V)) (Sum.inr a) v) (Sum.inr b) u = _
      have e1 : putK ([] : List (Key × V)) (Sum.inr a) v = [((Sum.inr a : Key), v)] := rfl
      rw [e1]
      unfold putK
      rw [if_neg (by simp [ne])]
      rfl
    rw [e]; exact q p hp⟩
theorem same_disp {p : Addr} {o u : HO} (hp : H p = none) : Same H (upd (upd H p o) p u) := fun b x e => by
  rw [upd_ne (ne_of_none e hp), upd_ne (ne_of_none e hp)]; exact e
end
end WP
namespace WP
open PySem PySem.Spec PyProof.Rows L2
theorem bm0 {K : PySem.W.Frag} {σ : L2.St} {H : Hp} {Q : VK} {T : String} {r : V → List V → Hp → VK → Prop} {to : TE} (h : to σ H fun x H1 => tyV K T x H1 ∧ r x [] H1 Q) : tBM0 K T r to σ H Q := h
/-- a for over the signs of a text -/
theorem for_txt {l : List Nat} {g : TG} {tb : TS} {D : Ends} {σ : L2.St} {H : Hp} (Pv : Nat → L2.St → Hp → Prop) (h0 : Pv 0 σ H)
    (hs : ∀ i c σ H, l[i]? = some c → Pv i σ H → g (.str (SX.S [c])) σ H fun σ2 H2 => tb { D with nx := Pv (i + 1), ct := Pv (i + 1), bk := D.nx } σ2 H2) (hd : ∀ σ H, Pv l.length σ H → D.nx σ H) :
    ∃ W : Nat → Nat → L2.St → Hp → Prop, (∃ m, W 0 m σ H) ∧ ∀ i m σ H, W i m σ H →
      ((Its (SX.S l)).stop i H ∧ D.nx σ H) ∨ ((Its (SX.S l)).go i H ∧ ∃ N : L2.St → Hp → Prop, (∀ σ' H', N σ' H' → ∃ m', m' < m ∧ W (i + 1) m' σ' H') ∧ ∀ x H', (Its (SX.S l)).yld i H x H' → g x σ H' fun σ2 H2 => tb { D with nx := N, ct := N, bk := D.nx } σ2 H2) := by
  have e : (SX.S l).cps.size = l.length := by simp [SX.S]
  refine for_it walk_str Pv h0 (fun _ _ _ _ _ => True.intro) (fun i x σ H H' hi p y => ?_) fun σ H p => hd σ H (by rw [← e]; exact p)
  obtain ⟨rfl, c, hc, rfl⟩ := y
  refine hs i c σ H' ?_ p
  simpa [SX.S] using hc
end WP
namespace WP
open PySem PySem.Spec PyProof.Rows L2
theorem pe_kdict {X : Cx} {x : Str} {xs : List (Str × V)} {pos : Pos} (hg : Gl X x) (h : KDc X.K X.w X.mg x xs) (hd : (x == ("__debug__" : Str)) = false := by decide) : PE X (.Name x pos) (tC (.ref (ca X.mg x))) := pe_glob hg h.m rfl hd
end WP
namespace WP
open PySem PySem.Spec PyProof.Rows L2
theorem lc {wi : TI} {g : TG} {tt : TT} {te : TE} {vs : List Nat} {σ : L2.St} {H : Hp} {Q : VK} (h : wi σ H fun J H1 => ∀ D, H1 D = none → ∃ W : Nat → Nat → Hp → Prop, (∃ m, W 0 m (upd H1 D (.lst []))) ∧ ∀ i m H, W i m H →
    (J.stop i H ∧ Q (.ref D) H) ∨ (J.go i H ∧ ∃ Nx : Hp → Prop, (∀ H', Nx H' → ∃ m', m' < m ∧ W (i + 1) m' H') ∧ ∀ x H', J.yld i H x H' → g x (wipe σ vs) H' fun σ2 H2 => wipe σ2 vs = wipe σ vs ∧ tt σ2 H2 fun b H3 =>
      if b = true then te σ2 H3 fun y H4 => ∃ acc, H4 D = some (.lst acc) ∧ acc.length < sizeLine ∧ Nx (upd H4 D (.lst (acc ++ [y]))) else Nx H3)) : tLc wi g tt te vs σ H Q := h
theorem lc_txt {l : List Nat} {g : TG} {tt : TT} {te : TE} {vs : List Nat} {σ : L2.St} {H1 : Hp} {D : Addr} {Qd : Hp → Prop} (Pv : Nat → Hp → Prop) (h0 : Pv 0 (upd H1 D (.lst [])))
    (hs : ∀ i c H, l[i]? = some c → Pv i H → g (.str (SX.S [c])) (wipe σ vs) H fun σ2 H2 => wipe σ2 vs = wipe σ vs ∧ tt σ2 H2 fun b H3 =>
      if b = true then te σ2 H3 fun y H4 => ∃ acc, H4 D = some (.lst acc) ∧ acc.length < sizeLine ∧ Pv (i + 1) (upd H4 D (.lst (acc ++ [y]))) else Pv (i + 1) H3) (hd : ∀ H, Pv l.length H → Qd H) :
    ∃ W : Nat → Nat → Hp → Prop, (∃ m, W 0 m (upd H1 D (.lst []))) ∧ ∀ i m H, W i m H →
      ((Its (SX.S l)).stop i H ∧ Qd H) ∨ ((Its (SX.S l)).go i H ∧ ∃ Nx : Hp → Prop, (∀ H', Nx H' → ∃ m', m' < m ∧ W (i + 1) m' H') ∧ ∀ x H', (Its (SX.S l)).yld i H x H' → g x (wipe σ vs) H' fun σ2 H2 => wipe σ2 vs = wipe σ vs ∧ tt σ2 H2 fun b H3 =>
        if b = true then te σ2 H3 fun y H4 => ∃ acc, H4 D = some (.lst acc) ∧ acc.length < sizeLine ∧ Nx (upd H4 D (.lst (acc ++ [y]))) else Nx H3) := by
  have e : (SX.S l).cps.size = l.length := by simp [SX.S]
  refine lc_it walk_str Pv h0 (fun _ _ _ _ => True.intro) (fun i x H H' hi p y => ?_) fun H p => hd H (by rw [← e]; exact p)
  obtain ⟨rfl, c, hc, rfl⟩ := y
  refine hs i c H' ?_ p
  simpa [SX.S] using hc
theorem at_S {ls : List (List Nat)} {i : Int} (h0 : 0 ≤ i) (h1 : i < (ls.length : Int)) : ∃ a ∈ ls, atI (ls.map fun a => V.str (SX.S a)) i = some (.str (SX.S a)) := by
  obtain ⟨j, rfl⟩ : ∃ j : Nat, i = (j : Int) := ⟨i.toNat, by omega⟩
  have hj : j < ls.length := by omega
  exact ⟨ls[j], List.getElem_mem hj, atI_nat (by rw [List.getElem?_map, List.getElem?_eq_getElem hj]; rfl)⟩
end WP
namespace WP
open PySem PySem.Spec PyProof.Rows L2
theorem dget2 {td ty tx : TE} {σ : L2.St} {H : Hp} {Q : VK} (h : td σ H fun x H1 => ∃ a, x = .ref a ∧ IsD H1 a ∧ ty σ H1 fun y H2 => tx σ H2 fun z H3 => ∃ o, DGet H3 a y o ∧ Q (o.getD z) H3) : tDGet2 td ty tx σ H Q := h
theorem dget {td ty : TE} {σ : L2.St} {H : Hp} {Q : VK} (h : td σ H fun x H1 => ty σ H1 fun y H2 => ∃ a v, x = .ref a ∧ DGet H2 a y (some v) ∧ Q v H2) : tDGet td ty σ H Q := h
theorem at_I {ls : List Int} {i : Int} (h0 : 0 ≤ i) (h1 : i < (ls.length : Int)) : ∃ a, atI (ls.map V.int) i = some (.int a) := ⟨_, at_ints h0 h1⟩
theorem valV1 {a c : List Nat} {v : V} : valV [((Sum.inr (SX.S a) : Key), v)] (Sum.inr (SX.S c)) = if a = c then some v else none := by
  by_cases h : a = c
  · subst h; rw [if_pos rfl]; exact valV_pos rfl
  · rw [if_neg h]; exact (valV_neg fun e => h (SX.S_inj (Sum.inr.inj e))).trans valV_nil
theorem valV2 {a b c : List Nat} {v u : V} : valV [((Sum.inr (SX.S a) : Key), v), ((Sum.inr (SX.S b) : Key), u)] (Sum.inr (SX.S c)) = if a = c then some v else if b = c then some u else none := by
  by_cases h : a = c
  · subst h; rw [if_pos rfl]; exact valV_pos rfl
  · rw [if_neg h]; exact (valV_neg fun e => h (SX.S_inj (Sum.inr.inj e))).trans valV1
end WP
namespace WP
open PySem PySem.Spec PyProof.Rows L2
theorem andOr {σ : L2.St} {H : Hp} {Q : VK} {ta tb tc : TE} {x y z : Bool} (ha : ∀ Q : VK, Q (.bl x) H → ta σ H Q) (hb : ∀ Q : VK, Q (.bl y) H → tb σ H Q) (hc : ∀ Q : VK, Q (.bl z) H → tc σ H Q)
    (q : Q (.bl (x && (y || z))) H) : tAndV ta (tOrV tb tc) σ H Q := by
  refine WP.andV (ha _ ⟨x, rfl, ?_⟩)
  cases x with
  | false => exact q
  | true =>
    refine WP.brT rfl (WP.orV (hb _ ⟨y, rfl, ?_⟩))
    cases y with
    | true => exact q
    | false => exact WP.brF rfl (hc _ q)
end WP
namespace WP
open PySem PySem.Spec PyProof.Rows L2
def rNotInSign : R2 := fun x y H Q => ∃ (c : Nat) (z : Str), x = .str ⟨#[c]⟩ ∧ y = .str z ∧ Q (.bl (!decide (c ∈ z.cps.toList))) H
theorem op_notInSign {X : Cx} : OpR X (compareOp .NotIn) rNotInSign := op_notIn_sign
theorem notInSign {c : Nat} {l : List Nat} {H : Hp} {Q : VK} (q : Q (.bl (!decide (c ∈ l))) H) : rNotInSign (.str (SX.S [c])) (.str (SX.S l)) H Q := ⟨c, SX.S l, rfl, rfl, q⟩
end WP
namespace WP
open PySem PySem.Spec PyProof.Rows L2
theorem chain {r r' : R2} {ta tb tc : TE} {σ : L2.St} {H : Hp} {Q : VK} (h : ta σ H fun x H1 => tb σ H1 fun y H2 => r x y H2 fun z H3 => ∃ k, z = .bl k ∧ (if k = true then tc σ H3 fun w' H4 => r' y w' H4 Q else Q (.bl false) H3)) : tChain r r' ta tb tc σ H Q := h
theorem notInL {K : PySem.W.Frag} {H : Hp} {Q : VK} (ls : List (List Nat)) {p : Addr} {xs : List V} {s : List Nat} (h : SqL K H p xs) (e : xs = ls.map fun a => V.str (SX.S a)) (q : Q (.bl (!decide (s ∈ ls))) H) : rIn K true (.str (SX.S s)) (.ref p) H Q := by
  subst e
  exact ⟨p, _, rfl, .inl h, rfl, flat_S ls, by rw [inV_S]; exact q⟩
end WP
namespace WP
open PySem PySem.Spec PyProof.Rows L2
theorem yes {σ : L2.St} {H : Hp} {t : Hp → Prop} {u : Hp → Prop} (h : t H) : tYes σ H (fun b H3 => if b = true then t H3 else u H3) := by
  show (if true = true then t H else u H)
  rw [if_pos rfl]; exact h
end WP
namespace WP
open PySem PySem.Spec PyProof.Rows L2
/-- text[i:j], both from the front -/
theorem slice_both {l : List Nat} {i j : Int} (h0 : 0 ≤ i) (h1 : i ≤ j) : Txt.slice (SX.S l) (some i) (some j) = SX.S ((l.drop i.toNat).take (j - i).toNat) := by
  have hl : ((SX.S l).length : Int) = (l.length : Int) := by rw [SX.S_len]
  by_cases hj : j ≤ (l.length : Int)
  · exact beq_iff_eq.mp (PyProof.Rows.slice_closesL (x := SX.S l) h0 h1 (by omega))
  · have e2 : Txt.slice (SX.S l) (some i) (some j) = Txt.slice (SX.S l) (some i) (some (l.length : Int)) := by
      unfold Txt.slice
      rw [SX.S_len, SX.idx_hi (by omega)]
    rw [e2]
    by_cases hi : i ≤ (l.length : Int)
    · have e := beq_iff_eq.mp (PyProof.Rows.slice_closesL (x := SX.S l) (j := (l.length : Int)) h0 hi (by omega))
      refine e.trans ?_
      show SX.S ((l.drop i.toNat).take ((l.length : Int) - i).toNat) = _
      rw [List.take_of_length_le (by rw [List.length_drop]; omega), List.take_of_length_le (by rw [List.length_drop]; omega)]
    · have e3 : Txt.slice (SX.S l) (some i) (some (l.length : Int)) = SX.S [] := by
        have hb := PyProof.Rows.slice_beyond (x := SX.S l) (i := i) (by omega)
        have hf := SX.slice_from (a := l) h0
        have e4 : Txt.slice (SX.S l) (some i) (some (l.length : Int)) = Txt.slice (SX.S l) (some i) none := by
          unfold Txt.slice
          rw [SX.S_len]
          have a1 : ¬ ((l.length : Int) < 0) := by omega
          have a2 : (1 : Int) > 0 := by decide
          simp only [Builtin.Str.strSliceIndices, a1, a2, if_false, if_true, Int.min_self, Int.max_eq_right (Int.natCast_nonneg l.length)]
        rw [e4, hf, List.drop_eq_nil_of_le (by omega)]
      rw [e3, List.drop_eq_nil_of_le (by omega), List.take_nil]
theorem slBoth {l : List Nat} {i j : Int} {H : Hp} {Q : VK} (h0 : 0 ≤ i) (h1 : i ≤ j) (h : l.length ≤ sizeLine) (q : Q (.str (SX.S ((l.drop i.toNat).take (j - i).toNat))) H) : rSlS (.str (SX.S l)) (some i) (some j) H Q := slS _ (by rw [SX.S_len]; exact h) (by rw [slice_both h0 h1]; exact q)
end WP
namespace WP
open PySem PySem.Spec PyProof.Rows L2
theorem m_lstripC {X : Cx} : MtR X "str.lstrip" (fun x xs H Q => ∃ a b, x = .str a ∧ xs = [.str b] ∧ a.length ≤ sizeLine ∧ Q (.str (Txt.lstripChars a b)) H) := mt_lstripChars
end WP
namespace WP
open PySem PySem.Spec PyProof.Rows L2
/-- in a comprehension's block: the fragment and the module named -/
theorem pe_ktupK {X : Cx} {K : PySem.W.Frag} {mg : MG} {x : Str} {xs : List V} {pos : Pos} (hg : Gl X x) (h : KTp K mg x xs) (hK : X.K = K) (hm : X.mg = mg) (hd : (x == ("__debug__" : Str)) = false := by decide) : PE X (.Name x pos) (tC (.ref (ca mg x))) := by
  subst hK hm
  exact pe_ktup hg h hd
theorem op_inK {X : Cx} {K : PySem.W.Frag} (h : X.K = K) : OpR X (compareOp .In) (rIn K false) := by subst h; exact op_in_seq
theorem op_notInK {X : Cx} {K : PySem.W.Frag} (h : X.K = K) : OpR X (compareOp .NotIn) (rIn K true) := by subst h; exact op_notIn_seq
end WP
namespace WP
open PySem PySem.Spec PyProof.Rows L2
theorem notInT {K : PySem.W.Frag} {H : Hp} {Q : VK} (ls : List (List Nat)) {p : Addr} {xs : List V} {s : List Nat} (h : SqT K H p xs) (e : xs = ls.map fun a => V.str (SX.S a)) (q : Q (.bl (!decide (s ∈ ls))) H) : rIn K true (.str (SX.S s)) (.ref p) H Q := by
  subst e
  exact ⟨p, _, rfl, .inr h, rfl, flat_S ls, by rw [inV_S]; exact q⟩
end WP

namespace WP
open PySem PySem.Spec PyProof.Rows L2 GxR
section
variable {X : Cx} {pins : List (Addr × Obj)} {σ : L2.St} {H : Hp} {s : Shared}
/-- the generator expression's scope in the def's scope sc -/
structure GenSc (sc scope : Scope) (x : Str) : Prop where
  kind : scope.kind = .function
  co : scope.isCoroutine = false
  cell : ∀ y ∈ scope.names, y.2 ≠ .cell
  dot : scope.names.lookup (".0" : Str) = some NameKind.local
  loc : scope.names.lookup x = some .local
  free : ∀ y ∈ scope.names, y.2 = .free → sc.names.lookup y.1 = some .cell ∨ sc.names.lookup y.1 = some .free
def gscB (sc scope : Scope) (x : Str) : Bool :=
  decide (scope.kind = .function) && !scope.isCoroutine && scope.names.all (fun y => !decide (y.2 = .cell)) && decide (scope.names.lookup (".0" : Str) = some NameKind.local) && decide (scope.names.lookup x = some .local) &&
    scope.names.all (fun y => !decide (y.2 = .free) || decide (sc.names.lookup y.1 = some .cell ∨ sc.names.lookup y.1 = some .free))
theorem gsc_by {sc scope : Scope} {x : Str} (h : gscB sc scope x = true) : GenSc sc scope x := by
  unfold gscB at h
  simp only [Bool.and_eq_true, Bool.not_eq_true', decide_eq_true_eq, List.all_eq_true, Bool.or_eq_true, decide_eq_false_iff_not] at h
  obtain ⟨⟨⟨⟨⟨h1, h2⟩, h3⟩, h4⟩, h5⟩, h6⟩ := h
  exact ⟨h1, h2, h3, h4, h5, fun y hy e => (h6 y hy).elim (fun z => absurd e z) id⟩
/-- what the walked thing xv gives in the state s1: n items, the i-th one as Pf tells -/
def ItOk (X : Cx) (P : Addr) (s1 : Shared) (xv : Value) (n : Nat) (Pf : Nat → Value → Prop) : Prop :=
  ∃ fpx : List Addr, (∀ b ∈ fpx, b < s1.heap.objs.size ∧ b ≠ P) ∧ ∀ (Q : Value → Shared → Prop),
    (∀ (o : Obj) (St : Nat → Heap → Prop), (∀ A' : Around, A'.handled = none → Walks X.prog X.w A' s1.heap.objs.size (s1.heap.objs.size :: fpx) [s1.heap.objs.size] n Pf St) → St 0 (s1.heap.push o) →
      Q (.ref s1.heap.objs.size) { s1 with heap := s1.heap.push o }) → wpAny (model X.prog X.w) X.A (pyIter xv) Q X.xe s1
theorem itOk_str {P : Addr} {s1 : Shared} {a : Str} {t : Tok} : ItOk X P s1 (.str a t) a.cps.size (SignAt a) :=
  ⟨[], (fun b hb => by cases hb), fun Q h => wpAny_pyIter_str fun o St W hst => h o St W hst⟩
theorem itOk_list {P : Addr} {s1 : Shared} {q : Addr} {its : Array Value} (hl : s1.heap.IsList q its) (hP : q ≠ P) : ItOk X P s1 (.ref q) its.size (fun i v => its[i]? = some v) := by
  obtain ⟨ol, hol, _⟩ := _root_.id hl
  have hlt := Heap.lt_size hol
  refine ⟨[q], fun b hb => ?_, fun Q h => wpAny_pyIter_list hl (h _ _ (fun A' hA => Walks.list hA _ q (Nat.ne_of_lt hlt) its) ⟨⟨_, Heap.get?_push_size _ rfl, rfl, rfl⟩, hl.push _⟩)⟩
  rcases List.mem_cons.mp hb with z | z
  · rw [z]; exact ⟨hlt, hP⟩
  · cases z
/-- the element in the generator's own frame -/
def EltG (X : Cx) (P : Addr) (scope : Scope) (x : Str) (elt : Expr) (s1 : Shared) (Pf : Nat → Value → Prop) (pb : Nat → Bool) : Prop :=
  ∀ (cenv : Env) (A' : Around) (E' : Value → Shared → Prop) (i : Nat) (v : Value) (s₂ : Shared) (m₂ : Str → Option Value), cenv.scope = scope → cenv.globals = X.env.globals → cenv.cells = cloFrom X.env.cells scope.names [] → A'.handled = none → Pf i v →
    s₂.heap.Ns cenv.locals m₂ → m₂ x = some v → (∀ b u, b ≠ P → s1.heap.get? b = some u → s₂.heap.get? b = some u) →
    wpAny (model X.prog X.w) A' (eval elt cenv) (fun y s₃ => y = .bool (pb i) ∧ Keeps s₂ s₃) E' s₂
def ReadyN (X : Cx) (pins : List (Addr × Obj)) (σ : L2.St) (H1 : Hp) (P : Addr) (n : Nat) (pb : Nat → Bool) (g : Addr) (s5 : Shared) : Prop :=
  ∃ (fp wr : List Addr) (G : Array GenState → Array GenState → Prop) (F : Nat → Value → Prop) (St : Nat → Shared → Prop),
    WalksS X.prog X.w X.A.in1 g fp wr G n F St ∧ St 0 s5 ∧ TruthOf X.prog X.w X.A.in1 F pb ∧ ∀ s', Moved wr G s5 s' → ∃ H2, Tabbed P H1 H2 ∧ Inv X pins σ H2 s'
theorem gen_go {c P : Addr} {elt iter : Expr} {x : Str} {px gpos : Pos} {scope : Scope} {te : TE} {k : Nat} {Q' : Value → Shared → Prop} {R : V → Hp → Prop}
    (hr : Room k X.A) (TB : TabB X.base X.mg c P) (hcode : X.env.code = .ref c) (S : GenSc X.env.scope scope x) (hi : PE X iter te)
    (hs : ∀ v, genFold iter X.env v = pure v) (I : Inv X pins σ H s) (h : te σ H fun v H1 => TabG H1 P ∧ R v H1)
    (hw : ∀ v xv H1 s1, TabG H1 P → R v H1 → RelV v xv → Inv X pins σ H1 s1 → ∃ n Pf pb, ItOk X P s1 xv n Pf ∧ EltG X P scope x elt s1 Pf pb ∧ ∀ g s5, ReadyN X pins σ H1 P n pb g s5 → Q' (.ref g) s5) :
    wpAny (model X.prog X.w) X.A (eval (.GeneratorExp elt [⟨.Name x px, iter, [], 0⟩] scope gpos) X.env) Q' X.xe s := by
  refine wpAny_GeneratorExp_walksQ hr.hd S.co (closure_ok fun y hy e => I.ok.has y.1 (S.free y hy e)) S.cell S.dot S.loc S.kind (by have := hr.dp; omega) ?_ hs
  refine thn (hi.run pins s σ H _ I h) fun xv s1 ⟨v, H1, I1, r1, ⟨ps, hP, ht⟩, q1⟩ => ?_
  obtain ⟨n, Pf, pb, ⟨fpx, hfpx, hIt⟩, hel, hQ⟩ := hw v xv H1 s1 ⟨ps, hP, ht⟩ q1 r1 I1
  refine hIt _ fun o St W hst => ?_
  have hPs : s1.heap.get? P = some { cls := .none, data := .fields ps } := I1.hok P _ hP
  have hPlt : P < s1.heap.objs.size := Heap.lt_size hPs
  have hP2 : (s1.heap.push o).get? P = some { cls := .none, data := .fields ps } := Heap.get?_push_of_some _ hPs
  have cd : PySem.W.CodeHd (s1.heap.push o) c P := TB.code.keeps fun b u e => Heap.get?_push_of_some _ (I1.bk b u e)
  have lim2 : (s1.heap.push o).NoLimit := I1.nolimit.push o
  have cont : ∀ (code : Value) (h3 : Heap) (tk : Nat) (ps' : Array Value), Heap.ExtBut P (s1.heap.push o) h3 → (s1.heap.push o).objs.size ≤ h3.objs.size → h3.get? P = some { cls := .none, data := .fields ps' } → (∃ more, ps' = ps ++ more) → TriplesOk ps'.toList →
      wpAny (model X.prog X.w) X.A (builtinsFor X.env.globals X.env.builtins) (fun bi s₄ =>
        ∃ Ia fp wr n₀ Pf St₀ pz F, Value.ref s1.heap.objs.size = .ref Ia ∧ (∀ A' : Around, A'.handled = none → Walks X.prog X.w A' Ia fp wr n₀ Pf St₀) ∧ St₀ 0 s₄.heap ∧ (∀ b ∈ fp, b < s₄.heap.objs.size) ∧ s₄.heap.NoLimit ∧ cStatics ∉ wr ∧
          (∀ href : Heap, (∀ b o, s₄.heap.get? b = some o → href.get? b = some o) →
            QuietGen X.prog X.w (genEnv scope (cloFrom X.env.cells scope.names []) s₄.heap.objs.size code bi X.env) x [] elt (List.range s₄.heap.objs.size) wr Pf pz F href) ∧
          (∀ a h₅ tk gs, gs.bare = true → s₄.heap.objs.size < a → h₅.objs.size = a + 1 → (∀ b o, s₄.heap.get? b = some o → h₅.get? b = some o) →
            WalksS X.prog X.w X.A.in4 a (a :: s₄.heap.objs.size :: List.range s₄.heap.objs.size) (s₄.heap.objs.size :: wr) (GenOnlyQ s₄.gens.size) (passing pz n₀ 0).length
              (fun j y => ∃ i, (passing pz n₀ 0)[j]? = some i ∧ F i y) (GenAt X.prog X.w X.A.in4 a s₄.gens.size s₄.heap.objs.size (List.range s₄.heap.objs.size) wr pz n₀ F) →
            GenAt X.prog X.w X.A.in4 a s₄.gens.size s₄.heap.objs.size (List.range s₄.heap.objs.size) wr pz n₀ F 0 { s₄ with gens := s₄.gens.push gs, toks := tk, heap := h₅ } →
            Q' (.ref a) { s₄ with gens := s₄.gens.push gs, toks := tk, heap := h₅ })) X.xe { s1 with heap := h3, toks := tk } := by
    intro code h3 tk ps' hx hsz hP3 hmore ht3
    obtain ⟨bm, ob, e1, e2, e3, e4, e5, e6, e7, e8⟩ := TB.bm
    have hcP : cStatics ≠ P := fun e => by
      obtain ⟨_, hns, _⟩ := I1.nolimit
      obtain ⟨o', es, ep, ho, hd, _⟩ := hns
      rw [e, hPs] at ho
      cases ho
      cases hd
    have hcl : cStatics < s1.heap.objs.size := let ⟨_, hns, _⟩ := I1.nolimit; hns.lt
    have sz2 : (s1.heap.push o).objs.size = s1.heap.objs.size + 1 := Heap.size_push ..
    have le3 : s1.heap.objs.size ≤ h3.objs.size := Nat.le_trans (Nat.le_succ _) (by have e := sz2; rw [e] at hsz; exact hsz)
    have keep3 : ∀ b u, b ≠ P → s1.heap.get? b = some u → h3.get? b = some u := fun b u hb e => hx b u hb (Heap.get?_push_of_some _ e)
    refine wpAny_builtinsFor (m := X.mg) (by rw [I1.ok.glob]; exact ((I1.mod.glob.keeps I1.bk).push o).extBut hx TB.gP) e1 e2 (keep3 _ _ e4 (I1.bk _ _ e5)) e6 e7 e8 ?_
    refine ⟨s1.heap.objs.size, s1.heap.objs.size :: fpx, [s1.heap.objs.size], n, Pf, St, (fun _ => true), (fun i y => y = .bool (pb i)), rfl, W, ?_, ?_, lim2.extBut hx hcP, ?_, ?_, ?_⟩
    · refine (W X.A hr.hd).frame _ _ _ hst fun b hb u e => hx b u (fun z => ?_) e
      rcases List.mem_cons.mp hb with z2 | z2
      · exact Nat.ne_of_lt hPlt (z.symm.trans z2)
      · exact (hfpx b z2).2 z
    · intro b hb
      rcases List.mem_cons.mp hb with z | z
      · rw [z]
        show s1.heap.objs.size < h3.objs.size
        omega
      · exact Nat.lt_of_lt_of_le (hfpx b z).1 le3
    · intro z
      rcases List.mem_cons.mp z with z | z
      · exact Nat.ne_of_lt hcl z
      · cases z
    · intro href hhref
      refine ⟨fun A' E' i v s₂ m₂ hA hPv hn hm hk => ?_, fun A' E' i v s₂ m₂ hA hPv hp hn hm hk => ?_⟩
      · simp only [List.forIn_nil]
        exact wpAny_pure ⟨rfl, keeps_refl _⟩
      · refine hel _ A' E' i v s₂ m₂ rfl rfl rfl hA hPv hn hm fun b u hb e => ?_
        have hlt := Heap.lt_size e
        refine hk b (List.mem_range.mpr ?_) (fun z => ?_) u (hhref b u (keep3 b u hb e))
        · exact Nat.lt_of_lt_of_le hlt le3
        · rcases List.mem_cons.mp z with z | z
          · exact Nat.ne_of_lt hlt z
          · cases z
    · intro g h5 tk5 gs hgb hag hsz5 hk5 W5 hat
      simp only [GxR.passing_true, List.length_range] at W5
      refine hQ g _ ⟨_, _, _, _, _, W5.in4_1, hat, ?_, fun s' hm => ?_⟩
      · intro j y sj Qj Ej hy hQj
        obtain ⟨i, hij, rfl⟩ := hy
        obtain ⟨hj, ej⟩ := List.getElem?_eq_some_iff.mp hij
        rw [List.getElem_range] at ej
        subst ej
        exact wpAny_truthy_bool hQj
      · obtain ⟨more, em⟩ := hmore
        have nwr : ∀ b u, s1.heap.get? b = some u → b ∉ h3.objs.size :: [s1.heap.objs.size] := fun b u e hb => by
          have hl := Heap.lt_size e
          rcases List.mem_cons.mp hb with z | z
          · rw [z] at hl
            have h9 : (h3.objs.size : Nat) < s1.heap.objs.size := hl
            omega
          · rcases List.mem_cons.mp z with z | z
            · rw [z] at hl
              exact Nat.lt_irrefl _ hl
            · cases z
        have J := inv_tab (more := more) (h' := s'.heap) (g' := s'.gens) (d' := s'.drawn) (t' := s'.toks) I1 hP (fun b u hb e => hm.heap b u (nwr b u e) (hk5 b u (keep3 b u hb e)))
          (by rw [← em]; exact hm.heap P _ (nwr P _ hPs) (hk5 P _ hP3)) (AllBare.movedS (I1.bare.push hgb) hm)
        rw [sh_eta s1 s' hm.os] at J
        refine ⟨upd H1 P (.tbl (ps ++ more)), ⟨⟨ps ++ more, upd_same, by rw [← em]; exact ht3⟩, fun b hb => upd_ne hb⟩, J⟩
  refine ⟨lim2, ?_⟩
  cases hf : codeAmong gpos ps.toList with
  | none =>
    refine wpAny_genexprCodeX hcode (cd.code hP2 ht) (cd.tab hP2) hf fun c' h' tk hx hge hlt hco' _ htab' _ => ?_
    obtain ⟨o1, vs, f1, tf, fl, tg, inF, tx, tt, op, _, _, _, _, _, _, _, _, _, htr, _⟩ := hco'
    exact cont _ h' tk _ hx (Nat.le_trans hge (Nat.le_of_lt hlt)) htab'.2 ⟨_, rfl⟩ htr
  | some cv =>
    refine wpAny_genexprCode_hit hcode (cd.code hP2 ht) hf ?_
    exact cont cv (s1.heap.push o) s1.toks ps (Heap.ExtBut.refl _ _) (Nat.le_refl _) hP2 ⟨#[], by simp⟩ ht
/-- cells of the def, seen from the generator -/
theorem clo_look {cells : List (Str × Addr)} {names : List (Str × NameKind)} {y : Str} {c : Addr} (hf : (y, NameKind.free) ∈ names) (hc : cells.lookup y = some c) : (cloFrom cells names []).lookup y = some c := by
  have h := cloFrom_has (cells := cells) (acc := []) hf
  obtain ⟨c', hc'⟩ := L2.mem_lookup h
  rw [hc']
  rcases cloFrom_mem (PySem.mem_of_lookup hc') with z | ⟨_, z⟩
  · cases z
  · rw [z, hc]; rfl
def trI (pb : Int → Bool) (l : List Int) (j : Nat) : Bool := match l[j]? with
  | some b => pb b
  | none => false
theorem trI_some {pb : Int → Bool} {l : List Int} {j : Nat} {b : Int} (h : l[j]? = some b) : trI pb l j = pb b := by
  unfold trI
  rw [h]
theorem all_trI (l : List Int) (pb : Int → Bool) : (List.range l.length).all (trI pb l) = l.all pb := by
  rw [Bool.eq_iff_iff, List.all_eq_true, List.all_eq_true]
  constructor
  · intro h b hb
    obtain ⟨j, hj, e⟩ := List.getElem_of_mem hb
    have q := h j (List.mem_range.mpr hj)
    rw [trI_some (List.getElem?_eq_getElem hj), e] at q
    exact q
  · intro h j hj
    have hj' := List.mem_range.mp hj
    rw [trI_some (List.getElem?_eq_getElem hj')]
    exact h _ (List.getElem_mem hj')
/-- x in y, y a captured text -/
theorem elt_in {P : Addr} {scope : Scope} {x y : Str} {p1 p2 p3 : Pos} {H1 : Hp} {s1 : Shared} {a z : Str} {i : Nat} (I1 : Inv X pins σ H1 s1) (hP : ∃ ps : Array Value, H1 P = some (.tbl ps))
    (hN : X.N[i]? = some y) (hv : σ[i]? = some (some (.str z))) (hk : X.env.scope.names.lookup y = some .cell) (hfr : (y, NameKind.free) ∈ scope.names) (hl : scope.names.lookup x = some .local) (hy : scope.names.lookup y = some .free) (hkd : scope.kind = .function)
    (hd : (x == ("__debug__" : Str)) = false := by decide) (hd2 : (y == ("__debug__" : Str)) = false := by decide) (hcd : (y == ("__classdict__" : Str)) = false := by decide) (hm : behindInMarks .In (.Name y p2) = false := by with_unfolding_all rfl) :
    EltG X P scope x (.Compare (.Name x p1) [.In] [.Name y p2] p3) s1 (SignAt a) (trF (fun c => decide (c ∈ z.cps.toList)) a.cps.toList) := by
  intro cenv A' E' j v s₂ m₂ e1 e2 e3 hA hPf hn hmx hkp
  obtain ⟨c, t, hc, rfl⟩ := hPf
  obtain ⟨m, hns, hloc⟩ := I1.loc
  obtain ⟨u, ru, lk⟩ := hloc i y _ hN hv (.inr (.inl hk))
  obtain ⟨t', rfl⟩ := _root_.id ru
  have hkk : X.env.kindOf y = some .cell := hk
  rcases lk with ⟨hk', _⟩ | ⟨_, cl, hcl, ⟨oc, hoc, hcd2⟩⟩
  · rw [hkk] at hk'; cases hk'
  have hcP : cl ≠ P := fun e => by
    obtain ⟨ps, hps⟩ := hP
    have q := I1.hok P _ hps
    have q' : s1.heap.get? P = some { cls := .none, data := .fields ps } := q
    rw [e, q'] at hoc
    cases hoc
    cases hcd2
  have ec : cenv.cells.lookup y = some cl := by rw [e3]; exact clo_look hfr hcl
  have hcell : s₂.heap.IsCell cl (some (.str z t')) := ⟨oc, hkp cl oc hcP hoc, hcd2⟩
  refine wpAny_Compare1 ?_ hm
  refine wpAny_Name (wpAny_loadName_local (by rw [e1]; exact hkd) (show cenv.scope.names.lookup x = some .local by rw [e1]; exact hl) hn hmx ?_) hd
  refine wpAny_Name (wpAny_loadName_free (by rw [e1]; exact hkd) (show cenv.scope.names.lookup y = some .free by rw [e1]; exact hy) ec hcell ?_ hcd) hd2
  refine PyProof.Rows.in_str ⟨?_, keeps_refl _⟩
  rw [trF_some (by rw [Array.getElem?_toList]; exact hc)]
  exact congrArg Value.bool (PySem.StrLaws.found_one z c)
/-- lo <= x <= hi and x != no, the three names of the module -/
theorem elt_rng {P : Addr} {scope : Scope} {x lo hi no : Str} {p1 p2 p3 p4 p5 p6 p7 p8 : Pos} {H1 : Hp} {s1 : Shared} {its : Array Value} {ns : List Int} {l h n : Int} {t1 t2 t3 : Tok} (I1 : Inv X pins σ H1 s1) (hP : ∃ ps : Array Value, H1 P = some (.tbl ps))
    (g1 : X.mg lo = some (.int l t1)) (g2 : X.mg hi = some (.int h t2)) (g3 : X.mg no = some (.int n t3)) (hv : Vals (ns.map V.int) its.toList)
    (hl : scope.names.lookup x = some .local) (k1 : scope.names.lookup lo = some .globalImplicit) (k2 : scope.names.lookup hi = some .globalImplicit) (k3 : scope.names.lookup no = some .globalImplicit) (hkd : scope.kind = .function)
    (d0 : (x == ("__debug__" : Str)) = false := by decide) (d1 : (lo == ("__debug__" : Str)) = false := by decide) (d2 : (hi == ("__debug__" : Str)) = false := by decide) (d3 : (no == ("__debug__" : Str)) = false := by decide) :
    EltG X P scope x (.BoolOp .And [.Compare (.Name lo p1) [.LtE, .LtE] [.Name x p2, .Name hi p3] p4, .Compare (.Name x p5) [.NotEq] [.Name no p6] p7] p8) s1 (fun i v => its[i]? = some v)
      (trI (fun c => decide (l ≤ c ∧ c ≤ h ∧ c ≠ n)) ns) := by
  intro cenv A' E' j v s₂ m₂ e1 e2 e3 hA hPf hn hmx hkp
  have hj : ∃ (c : Int) (tc : Tok), ns[j]? = some c ∧ v = .int c tc := by
    have hlen := hv.length
    obtain ⟨hjl, _⟩ := Array.getElem?_eq_some_iff.mp hPf
    have hj2 : j < ns.length := by simp only [List.length_map, Array.length_toList] at hlen; exact Nat.lt_of_lt_of_eq hjl hlen.symm
    obtain ⟨u, hu, ru⟩ := hv.get (i := j) (x := .int ns[j]) (by rw [List.getElem?_map, List.getElem?_eq_getElem hj2]; rfl)
    rw [Array.getElem?_toList, hPf] at hu
    cases hu
    obtain ⟨tc, rfl⟩ := ru
    exact ⟨_, tc, List.getElem?_eq_getElem hj2, rfl⟩
  obtain ⟨c, tc, hc, rfl⟩ := hj
  have kd : cenv.scope.kind = .function := by rw [e1]; exact hkd
  have gns : s₂.heap.Ns cenv.globals X.mg := by
    rw [e2, I1.ok.glob]
    obtain ⟨o, es, ep, ho, hd, r⟩ := I1.mod.glob.keeps I1.bk
    refine ⟨o, es, ep, hkp _ _ (fun e => ?_) ho, hd, r⟩
    obtain ⟨ps, hps⟩ := hP
    have q' : s1.heap.get? P = some { cls := .none, data := .fields ps } := I1.hok P _ hps
    rw [e, q'] at ho
    cases ho
    cases hd
  have ldx : ∀ {Q : Value → Shared → Prop} {pp : Pos}, Q (.int c tc) s₂ → wpAny (model X.prog X.w) A' (eval (.Name x pp) cenv) Q E' s₂ := fun q =>
    wpAny_Name (wpAny_loadName_local kd (show cenv.scope.names.lookup x = some .local by rw [e1]; exact hl) hn hmx q) d0
  have ldg : ∀ {y : Str} {val : Value} {Q : Value → Shared → Prop} {pp : Pos}, X.mg y = some val → scope.names.lookup y = some .globalImplicit → (y == ("__debug__" : Str)) = false → Q val s₂ → wpAny (model X.prog X.w) A' (eval (.Name y pp) cenv) Q E' s₂ := fun g k d q =>
    Calls.Name_function_global kd (show cenv.scope.names.lookup _ = some .globalImplicit by rw [e1]; exact k) (Calls.loadGlobal_global gns g q) d
  rw [trI_some hc]
  refine wpAny_And2 ?_
  refine Compare_chain (ldg g1 k1 d1 (chain_link (ldx (le_int ?_))))
  refine wpAny_truthy_bool ?_
  by_cases h1 : l ≤ c
  · rw [decide_eq_true h1]
    refine ite_tt (chain_last (ldg g2 k2 d2 (le_int ?_)))
    refine wpAny_truthy_bool ?_
    by_cases h2 : c ≤ h
    · rw [decide_eq_true h2]
      refine ite_tt (wpAny_Compare1 (ldx (ldg g3 k3 d3 (ne_int ?_))))
      refine ⟨?_, keeps_refl _⟩
      by_cases h3 : c = n
      · simp [h3]
      · simp [h1, h2, h3]
    · rw [decide_eq_false h2]
      exact ite_ff ⟨by simp [h2], keeps_refl _⟩
  · rw [decide_eq_false h1]
    refine ite_ff ?_
    refine wpAny_truthy_bool (ite_ff ⟨by simp [h1], keeps_refl _⟩)
/-- all(.. for x in e): the walked thing of the kind R, the answer b -/
theorem all_go {c P : Addr} {elt iter : Expr} {x : Str} {px p pos gpos : Pos} {scope : Scope} {te : TE} {Wf : V → Hp → L2.St → VK → Prop} {k : Nat}
    (hr : Room k X.A) (hg : Gl X "all") (hm : X.mg "all" = none) (hb : bootBuiltins "all" = some (.builtin "all")) (TB : TabB X.base X.mg c P) (hcode : X.env.code = .ref c) (S : GenSc X.env.scope scope x) (hi : PE X iter te)
    (hs : ∀ v, genFold iter X.env v = pure v)
    (he : starEach [.GeneratorExp elt [⟨.Name x px, iter, [], 0⟩] scope gpos] X.env = (false, eval (.GeneratorExp elt [⟨.Name x px, iter, [], 0⟩] scope gpos) X.env) :: starEach [] X.env)
    (hw : ∀ pins (σ : L2.St) (v : V) (xv : Value) (H1 : Hp) (s1 : Shared) (Q : VK), TabG H1 P → Wf v H1 σ Q → RelV v xv → Inv X pins σ H1 s1 → ∃ n Pf pb, ItOk X P s1 xv n Pf ∧ EltG X P scope x elt s1 Pf pb ∧ ∀ H2, Tabbed P H1 H2 → Q (.bl ((List.range n).all pb)) H2) :
    PE X (.Call (.Name "all" p) [.GeneratorExp elt [⟨.Name x px, iter, [], 0⟩] scope gpos] [] pos) (fun σ H Q => te σ H fun v H1 => TabG H1 P ∧ Wf v H1 σ Q) := by
  refine ⟨fun pins s σ H Q I h => ?_⟩
  refine wpAny_Call_Name_kw (ld_blt I hg hm hb ?_)
  refine PyProof.Rows.callWith_builtin1 ?_ he (by rfl)
  rw [he]
  show wpAny _ _ (spliced ((false, eval (.GeneratorExp elt [⟨.Name x px, iter, [], 0⟩] scope gpos) X.env) :: backTo pos (starEach [] X.env))) _ _ s
  refine Calls.spliced_cons (gen_go (R := fun v H1 => Wf v H1 σ Q) hr TB hcode S hi hs I h fun v xv H1 s1 hT q1 r1 I1 => ?_)
  obtain ⟨n, Pf, pb, h1, h2, h3⟩ := hw pins σ v xv H1 s1 Q hT q1 r1 I1
  refine ⟨n, Pf, pb, h1, h2, fun g s5 hG => ?_⟩
  obtain ⟨fp, wr, G, F, St, W, hst, htr, hI⟩ := hG
  refine Calls.spliced_nil ?_
  refine call_all_walkS (W.self 0 _ _ _ hst ⟨g, fp, wr, G, _, F, St, _, rfl, W, hst, htr, fun s' hmv => ?_⟩)
  obtain ⟨H2, hT, J⟩ := hI s' hmv
  exact ⟨.bl _, H2, J, rfl, h3 H2 hT⟩
/-- all(x in y for x in e), e and y texts; y the def's i-th name -/
def tAllC (P : Addr) (i : Nat) (te : TE) : TE := fun σ H Q => te σ H fun v H1 => TabG H1 P ∧ ∃ a z : Str, v = .str a ∧ σ[i]? = some (some (.str z)) ∧ ∀ H2, Tabbed P H1 H2 → Q (.bl (a.cps.toList.all fun c => decide (c ∈ z.cps.toList))) H2
theorem pe_allC {c P : Addr} {iter : Expr} {x y : Str} {px p pos gpos p1 p2 p3 : Pos} {scope : Scope} {te : TE} {k i : Nat}
    (hr : Room k X.A) (hg : Gl X "all") (hm : X.mg "all" = none) (hb : bootBuiltins "all" = some (.builtin "all")) (TB : TabB X.base X.mg c P) (hcode : X.env.code = .ref c) (S : GenSc X.env.scope scope x) (hi : PE X iter te)
    (hN : X.N[i]? = some y) (hk : X.env.scope.names.lookup y = some .cell) (hfr : (y, NameKind.free) ∈ scope.names) (hy : scope.names.lookup y = some .free)
    (hs : ∀ v, genFold iter X.env v = pure v)
    (he : starEach [.GeneratorExp (.Compare (.Name x p1) [.In] [.Name y p2] p3) [⟨.Name x px, iter, [], 0⟩] scope gpos] X.env = (false, eval (.GeneratorExp (.Compare (.Name x p1) [.In] [.Name y p2] p3) [⟨.Name x px, iter, [], 0⟩] scope gpos) X.env) :: starEach [] X.env := by rfl)
    (hd : (x == ("__debug__" : Str)) = false := by decide) (hd2 : (y == ("__debug__" : Str)) = false := by decide) (hcd : (y == ("__classdict__" : Str)) = false := by decide) (hmk : behindInMarks .In (Expr.Name y p2) = false := by with_unfolding_all rfl) :
    PE X (.Call (.Name "all" p) [.GeneratorExp (.Compare (.Name x p1) [.In] [.Name y p2] p3) [⟨.Name x px, iter, [], 0⟩] scope gpos] [] pos) (tAllC P i te) := by
  refine all_go (Wf := fun v H1 σ Q => ∃ a z : Str, v = .str a ∧ σ[i]? = some (some (.str z)) ∧ ∀ H2, Tabbed P H1 H2 → Q (.bl (a.cps.toList.all fun c => decide (c ∈ z.cps.toList))) H2) hr hg hm hb TB hcode S hi hs he fun pins σ v xv H1 s1 Q hT h r1 I1 => ?_
  obtain ⟨a, z, rfl, hv, hQ⟩ := h
  obtain ⟨t, rfl⟩ := _root_.id r1
  obtain ⟨ps, hP, _⟩ := hT
  refine ⟨_, _, _, itOk_str, elt_in I1 ⟨ps, hP⟩ hN hv hk hfr S.loc hy S.kind hd hd2 hcd hmk, fun H2 h2 => ?_⟩
  rw [all_signs]
  exact hQ H2 h2
/-- all(lo <= x <= hi and x != no for x in e), e a list of ints -/
def tAllR (K : PySem.W.Frag) (P : Addr) (l h n : Int) (te : TE) : TE := fun σ H Q => te σ H fun v H1 => TabG H1 P ∧ ∃ (q : Addr) (ns : List Int), v = .ref q ∧ SqL K H1 q (ns.map V.int) ∧ ∀ H2, Tabbed P H1 H2 → Q (.bl (ns.all fun c => decide (l ≤ c ∧ c ≤ h ∧ c ≠ n))) H2
theorem pe_allR {c P : Addr} {iter : Expr} {x lo hi no : Str} {px p pos gpos p1 p2 p3 p4 p5 p6 p7 p8 : Pos} {scope : Scope} {te : TE} {k : Nat} {l h n : Int}
    (hr : Room k X.A) (hg : Gl X "all") (hm : X.mg "all" = none) (hb : bootBuiltins "all" = some (.builtin "all")) (TB : TabB X.base X.mg c P) (hcode : X.env.code = .ref c) (S : GenSc X.env.scope scope x) (hi' : PE X iter te)
    (g1 : ∃ u, X.mg lo = some u ∧ RelV (.int l) u) (g2 : ∃ u, X.mg hi = some u ∧ RelV (.int h) u) (g3 : ∃ u, X.mg no = some u ∧ RelV (.int n) u)
    (k1 : scope.names.lookup lo = some .globalImplicit) (k2 : scope.names.lookup hi = some .globalImplicit) (k3 : scope.names.lookup no = some .globalImplicit)
    (hs : ∀ v, genFold iter X.env v = pure v)
    (he : starEach [.GeneratorExp (.BoolOp .And [.Compare (.Name lo p1) [.LtE, .LtE] [.Name x p2, .Name hi p3] p4, .Compare (.Name x p5) [.NotEq] [.Name no p6] p7] p8) [⟨.Name x px, iter, [], 0⟩] scope gpos] X.env = (false, eval (.GeneratorExp (.BoolOp .And [.Compare (.Name lo p1) [.LtE, .LtE] [.Name x p2, .Name hi p3] p4, .Compare (.Name x p5) [.NotEq] [.Name no p6] p7] p8) [⟨.Name x px, iter, [], 0⟩] scope gpos) X.env) :: starEach [] X.env := by rfl)
    (d0 : (x == ("__debug__" : Str)) = false := by decide) (d1 : (lo == ("__debug__" : Str)) = false := by decide) (d2 : (hi == ("__debug__" : Str)) = false := by decide) (d3 : (no == ("__debug__" : Str)) = false := by decide) :
    PE X (.Call (.Name "all" p) [.GeneratorExp (.BoolOp .And [.Compare (.Name lo p1) [.LtE, .LtE] [.Name x p2, .Name hi p3] p4, .Compare (.Name x p5) [.NotEq] [.Name no p6] p7] p8) [⟨.Name x px, iter, [], 0⟩] scope gpos] [] pos) (tAllR X.K P l h n te) := by
  obtain ⟨u1, g1, t1, rfl⟩ := g1
  obtain ⟨u2, g2, t2, rfl⟩ := g2
  obtain ⟨u3, g3, t3, rfl⟩ := g3
  refine all_go (Wf := fun v H1 σ Q => ∃ (q : Addr) (ns : List Int), v = .ref q ∧ SqL X.K H1 q (ns.map V.int) ∧ ∀ H2, Tabbed P H1 H2 → Q (.bl (ns.all fun c => decide (l ≤ c ∧ c ≤ h ∧ c ≠ n))) H2) hr hg hm hb TB hcode S hi' hs he fun pins σ v xv H1 s1 Q hT hq r1 I1 => ?_
  obtain ⟨q, ns, rfl, hq, hQ⟩ := hq
  obtain rfl : xv = Value.ref q := r1
  obtain ⟨its, rv, pl, hsz⟩ := I1.list hq
  obtain ⟨ps, hP, _⟩ := hT
  have hqP : q ≠ P := fun e => by
    have q' : s1.heap.get? P = some { cls := .none, data := .fields ps } := I1.hok P _ hP
    obtain ⟨o, nn, e1, _, _, e2⟩ := pl
    rw [e, q'] at e1
    cases e1
    cases e2
  refine ⟨_, _, _, itOk_list pl.isList hqP, elt_rng I1 ⟨ps, hP⟩ g1 g2 g3 (by simpa using rv) S.loc k1 k2 k3 S.kind d0 d1 d2 d3, fun H2 h2 => ?_⟩
  have e := rv.length
  rw [List.length_map] at e
  rw [List.size_toArray, ← e, all_trI]
  exact hQ H2 h2
end
end WP

namespace WP
open PySem PySem.Spec PyProof.Rows L2 GxR
/-- all but the tables stay, tables stay tables -/
def NT (u : HO) : Prop := ∀ ps, u ≠ .tbl ps
structure Sm (H H' : Hp) : Prop where
  k : ∀ b u, H b = some u → NT u → H' b = some u
  t : ∀ P, TabG H P → TabG H' P
theorem Sm.refl (H : Hp) : Sm H H := ⟨fun _ _ e _ => e, fun _ h => h⟩
theorem Sm.trans {H H' H2 : Hp} (a : Sm H H') (b : Sm H' H2) : Sm H H2 := ⟨fun x u e n => b.k x u (a.k x u e n) n, fun P h => b.t P (a.t P h)⟩
theorem Sm.of {H H' : Hp} (e : Same H H') : Sm H H' := ⟨fun b u h _ => e b u h, fun P ⟨ps, h, t⟩ => ⟨ps, e P _ h, t⟩⟩
theorem Sm.tab {H H' : Hp} {P : Addr} (g : TabG H P) (h : Tabbed P H H') : Sm H H' := by
  obtain ⟨ps, hP, ht⟩ := g
  refine ⟨fun b u e n => ?_, fun Q hq => ?_⟩
  · by_cases hb : b = P
    · rw [hb, hP] at e; exact absurd (Option.some.inj e).symm (n ps)
    · rw [h.2 b hb]; exact e
  · by_cases hb : Q = P
    · rw [hb]; exact h.1
    · obtain ⟨qs, h1, h2⟩ := hq
      exact ⟨qs, by rw [h.2 Q hb]; exact h1, h2⟩
theorem nt_tup {xs : List V} : NT (.tup xs) := fun _ z => by cases z
theorem nt_lst {xs : List V} : NT (.lst xs) := fun _ z => by cases z
theorem nt_frz {o : Obj} {x : HO} : NT (.frz o x) := fun _ z => by cases z
theorem Sm.tup {K : PySem.W.Frag} {H H' : Hp} {a : Addr} {xs : List V} (e : Sm H H') (h : SqT K H a xs) : SqT K H' a xs := by
  rcases h with (h | ⟨o, h⟩) | h
  · exact .inl (.inl (e.k _ _ h nt_tup))
  · exact .inl (.inr ⟨o, e.k _ _ h nt_frz⟩)
  · exact .inr h
theorem Sm.lst {K : PySem.W.Frag} {H H' : Hp} {a : Addr} {xs : List V} (e : Sm H H') (h : SqL K H a xs) : SqL K H' a xs := by
  rcases h with (h | ⟨o, h⟩) | h
  · exact .inl (.inl (e.k _ _ h nt_lst))
  · exact .inl (.inr ⟨o, e.k _ _ h nt_frz⟩)
  · exact .inr h
/-- what comes back, tables grown -/
def MetV (v : V) (H : Hp) (Q : VK) : Prop := ∀ H', Sm H H' → Q v H'
def MetT (xs : List V) (H : Hp) (Q : VK) : Prop := ∀ p H', Sm H H' → H' p = some (.tup xs) → Q (.ref p) H'
theorem MetT.new {xs : List V} {H H' : Hp} {Q : VK} (k : MetT xs H Q) (e : Sm H H') : ∀ p, H' p = none → Q (.ref p) (upd H' p (.tup xs)) := fun p hp =>
  k p _ (e.trans (.of (same_new hp))) upd_same
/-- the def x's code object and its table -/
def cod (K : PySem.W.Frag) (x : Str) : Addr := match PySem.W.tabIn K x with
  | some (c, _) => c
  | none => 0
def tbl (K : PySem.W.Frag) (x : Str) : Addr := match PySem.W.tabIn K x with
  | some (_, P) => P
  | none => 0
theorem cod_of {K : PySem.W.Frag} {x : Str} {c P : Addr} (h : PySem.W.tabIn K x = some (c, P)) : cod K x = c := by unfold cod; rw [h]
theorem tbl_of {K : PySem.W.Frag} {x : Str} {c P : Addr} (h : PySem.W.tabIn K x = some (c, P)) : tbl K x = P := by unfold tbl; rw [h]
/-- a def whose code object is c -/
structure FunC (K : PySem.W.Frag) (x qual : Str) (st : Stmt) (f : Addr) (fd : FuncData) (c : Addr) : Prop where
  ex : ∃ (oc : Value) (od : Option Addr) (kV doc pm : Value) (an : Option Addr) (ct : Value) (osl : Array (Option Value)),
    fd = PySem.W.fnOf x qual (defArgs st) (defBody st) (defScope st) .none kV doc pm an (.ref c) ct ∧ K.lookup f = some ⟨oc, od, .func fd, osl⟩ ∧ PySem.W.codeIn K (.ref c) qual = true
section
variable {P : Program} {w : World} {K : PySem.W.Frag} {mg : Str → Option Value} {base : Heap}
theorem FunC.ok {x qual : Str} {st : Stmt} {f : Addr} {fd : FuncData} {c : Addr} {N ps : List Str} {k : Nat} {sp : Sp} (F : FunC K x qual st f fd c) (S : FnScope N ps (defScope st)) (len : ∀ vs H Q E, sp vs H Q E → vs.length = ps.length)
    (hbody : ∀ (A : Around) (outer : List Env) (s : Shared) (H : Hp) (vs : List V) (Q : VK) (E : XK), Room k (A.deeper (envOfC qual (defScope st) s.heap.objs.size f (.ref c))) → sp vs H Q E →
      ∃ t, PSs (cxOf CX0 P w K mg base N qual (defScope st) f (.ref c) A outer s H E).nox (defBody st) t ∧ t { nx := fun _ H' => Q .non H', rt := Q } (start N vs) H) : FnOk P w K mg base CX0 (k + 1) f fd ps sp := by
  obtain ⟨oc, od, kV, doc, pm, an, ct, osl, rfl, lk, hcd⟩ := F.ex
  refine fn_of lk hcd S len fun A outer s H vs Q E hr hsp => ?_
  obtain ⟨t, h, q⟩ := hbody A outer s H vs Q E hr hsp
  exact ⟨t, h.nox, q⟩
theorem funC_mk {x qual : Str} {st : Stmt} {f : Addr} {c P' : Addr} {y : Str} {oc : Value} {od an : Option Addr} {osl : Array (Option Value)} {kV doc pm ct : Value} (l : K.lookup f = some ⟨oc, od, .func (PySem.W.fnOf x qual (defArgs st) (defBody st) (defScope st) .none kV doc pm an (.ref c) ct), osl⟩)
    (hc : PySem.W.codeIn K (.ref c) qual = true) (ht : PySem.W.tabIn K y = some (c, P')) : FunC K x qual st f (PySem.W.fnOf x qual (defArgs st) (defBody st) (defScope st) .none kV doc pm an (.ref c) ct) (cod K y) := by
  rw [cod_of ht]
  exact ⟨oc, od, kV, doc, pm, an, ct, osl, rfl, l, hc⟩
end
theorem FunC.toF {K : PySem.W.Frag} {x qual : Str} {st : Stmt} {f : Addr} {fd : FuncData} {c : Addr} (F : FunC K x qual st f fd c) (k : PySem.W.keepIn K (.ref f) = true) : Fun K x qual st f fd := by
  obtain ⟨oc, od, kV, doc, pm, an, ct, osl, e, lk, hcd⟩ := F.ex
  exact ⟨⟨oc, od, kV, doc, pm, an, _, ct, osl, e, lk, hcd⟩, k⟩
theorem tabB_of {base : Heap} {mg : Str → Option Value} {K : PySem.W.Frag} {x : Str} {c P : Addr} (h : LamX.TabB base mg c P) (ht : PySem.W.tabIn K x = some (c, P)) : GxR.TabB base mg (cod K x) (tbl K x) := by
  rw [cod_of ht, tbl_of ht]
  exact ⟨h.code, h.bm, h.gP⟩
/-- the end of a row whose defs hold generator expressions -/
theorem walk_ofG {l : PySem.W.OpenLaw} {n k : Nat} {q : Program} {loose : List Str} {XP : (Str → Option Value) → Heap → Prop} {YP : World → Heap → Prop} {d : DefRec} {K : Params → PySem.W.Frag} {CX : World → CXT} {x : Str}
    (hn : l.most = some n) (hn2 : n ≤ sizeLine) (hdf : d.params.defaults = []) (hr : Room k callerA) (hY : ∀ (w : World) (h : Heap), YP w h → (K w.params).In h)
    (F : ∀ (w : World) (mg : Str → Option Value) (fa : Addr) (h : Heap), YP w h → (K w.params).In h → h.Ns mainGlobals mg → mg d.name = some (.ref fa) →
      (∀ (x : Str) (c P : Addr), ((recsOf q).any fun e => e.name == x) = true → PySem.W.tabIn (K w.params) x = some (c, P) → PySem.W.CodeHd h c P ∧ h.get? P = some { cls := .none, data := .fields #[] }) → LamX.LawAtS l w (K w.params) (CX w) k n x mg fa h)
    (hCX : ∀ (w : World) (H : Hp) (s : Shared) (e : Value) (s' : Shared), CX w [] H s (fun _ _ _ => False) e s' → False) :
    PySem.W.WalkO q loose XP YP l.row.toRowW d [] (fun f vs => PySem.call f vs) := by
  refine Att.attach_callB hn hdf fun w s₀ s₁ mg mb fa o pm cd doc a vs ns G Y ho hd hcd hmg hobj hints hlen hbits hg => ?_
  have KX := hY w _ Y
  obtain ⟨fd, cs, sp, hT, nT, C, hb, hsp, hF⟩ := F w mg fa _ Y KX G.T.g hmg fun x c P hrec ht => by
    obtain ⟨dL, hf⟩ : ∃ dL, (recsOf q).find? (fun e => e.name == x) = some dL := by
      cases e : (recsOf q).find? (fun e => e.name == x) with
      | some dL => exact ⟨dL, rfl⟩
      | none =>
        rw [List.find?_eq_none] at e
        obtain ⟨z, hz, h2⟩ := List.any_eq_true.mp hrec
        exact absurd h2 (e z hz)
    exact PySem.W.tab_of G.T KX hf ht
  exact LamX.law_callTs KX G.T.g G.T.b G.T.builtins G.T.nolimit hg hT nT C G.T.bmain hobj hints (Nat.le_trans hlen hn2) hr hF hb (fun H hH hS => hsp H a ns hlen hbits hH hS) fun H e s' => hCX w H s₁ e s'
end WP

namespace WT
open PySem PySem.Spec PyProof.Rows L2 CwR
/-! ### with a token out: tests, ifs, loops, defs -/
def PTT (X : Cx) (e : Expr) (t : TT) : Prop :=
  ∀ (pins : List (Addr × Obj)) (s : Shared) (σ : L2.St) (H : Hp) (Q : Bool → Hp → Prop), 1 ≤ s.toks → Inv X pins σ H s → t σ H Q → wpAny (model X.prog X.w) X.A (isTrue e X.env (eval e X.env)) (TP X pins σ Q) X.xe s
def PWT (X : Cx) (e : Expr) (t : TT) : Prop :=
  ∀ (whole : Sem Value) (pins : List (Addr × Obj)) (s : Shared) (σ : L2.St) (H : Hp) (Q : Bool → Hp → Prop), 1 ≤ s.toks → Inv X pins σ H s → t σ H Q → wpAny (model X.prog X.w) X.A (isTrue e X.env whole) (TP X pins σ Q) X.xe s
section
variable {X : Cx} {st : Stmt} {rest : List Stmt} {t u : TS} {a b c e f : Expr} {te tf ta tb : TE} {tA tB tc : TT} {pos p : Pos}
theorem PTT.of (h : PT X e tA) : PTT X e tA := fun pins s σ H Q _ I q => h.run pins s σ H Q I q
theorem PWT.of (h : PW X e tA) : PWT X e tA := fun wh pins s σ H Q _ I q => h.run wh pins s σ H Q I q
theorem PWT.pt (h : PWT X e tA) : PTT X e tA := h _
theorem ptt_cmp {op : CmpOp} {r : R2} (ho : OpR X (compareOp op) r) (ha : PET X a ta) (hb : PET X b tb) (hm : behindInMarks op b = false) : PTT X (.Compare a [op] [b] pos) (tTest (tOp r ta tb)) := by
  intro pins s σ H Q h0 I h
  refine wpAny_isTrue_Compare1 (wpAny_mono (PySem.wpAny_toks (ha pins s σ H _ h0 I h)) (fun v s1 q => ?_) fun _ _ z => z.2) hm
  obtain ⟨hk, x, H1, I1, r1, q1⟩ := q
  refine thn (hb pins s1 σ H1 _ (Nat.le_trans h0 hk) I1 q1) fun u s2 ⟨y, H2, I2, r2, q2⟩ => thn (ho pins s2 σ H2 x y v u _ I2 r1 r2 q2) fun c s3 ⟨z, H3, I3, r3, k, e, q3⟩ => ?_
  subst e
  cases r3
  exact wpAny_truthy_bool ⟨H3, I3, q3⟩
theorem pwt_and {rest : List Expr} {tB' : TT} (ha : PTT X a tA) (hb : PWT X (.BoolOp .And (b :: rest) pos) tB') : PWT X (.BoolOp .And (a :: b :: rest) pos) (tAnd tA tB') := by
  intro wh pins s σ H Q h0 I h
  refine isTrue_and (wpAny_mono (PySem.wpAny_toks (ha pins s σ H _ h0 I h)) (fun c s1 q => ?_) fun _ _ z => z.2)
  obtain ⟨hk, H1, I1, q1⟩ := q
  cases c with
  | true => exact hb wh pins s1 σ H1 Q (Nat.le_trans h0 hk) I1 q1
  | false => exact ⟨H1, I1, q1⟩
theorem pat_one (ha : PET X e te) (hs : starEach [e] X.env = (false, eval e X.env) :: starEach [] X.env := by rfl) : PAT X [e] (tCons te tNil) := pat_cons ha pat_nil hs
theorem pet_callB {x : Str} {id : String} {r : List V → Hp → VK → Prop} {es : List Expr} {t : TA} (hc : CallR X (.builtin id) r) (hg : Gl X x) (hm : X.mg x = none) (hv : bootBuiltins x = some (.builtin id)) (ha : PAT X (e :: es) t) (hn : x ≠ "__name__" := by decide) (hdb : (x == ("__debug__" : Str)) = false := by decide)
    (he : starEach (e :: es) X.env = (false, eval e X.env) :: starEach es X.env := by rfl) (hpl : (backTo pos (starEach es X.env)).any (·.1) = false := by rfl) : PET X (.Call (.Name x p) (e :: es) [] pos) (tCB r t) := by
  intro pins s σ H Q h0 I h
  refine wpAny_Call_Name_kw (ld_blt I hg hm hv ?_ hn hdb)
  exact PyProof.Rows.callWith_builtin1 (thn (ha pos pins s σ H _ h0 I h) fun us s1 ⟨vs, H1, I1, r1, q1⟩ => hc pins s1 σ H1 vs us Q I1 r1 q1) he hpl
theorem pst_ifT {a b : List Stmt} (hc : PTT X c tc) (ha : PSsT X a t) (hb : PSsT X b u) : PST X (.If c a b pos) (tIfS tc t u) := by
  intro pins s σ H D h0 I h
  refine wpAny_If (wpAny_mono (PySem.wpAny_toks (hc pins s σ H _ h0 I h)) (fun d s1 q => ?_) fun _ _ z => z.2)
  obtain ⟨hk, H1, I1, q1⟩ := q
  cases d with
  | true => exact ha pins s1 σ H1 D (Nat.le_trans h0 hk) I1 q1
  | false => exact hb pins s1 σ H1 D (Nat.le_trans h0 hk) I1 q1
theorem psst_cut (h1 : PST X st t) (h2 : PSsT X rest u) : PSsT X (st :: rest) (Evl.tCut t u) := by
  intro pins s σ H D h0 I h
  obtain ⟨Mid, hm, hu⟩ := h
  refine wpAny_execs_cons (wpAny_mono (PySem.wpAny_toks (h1 pins s σ H { D with nx := Mid } h0 I hm)) (fun f s1 q => ?_) fun _ _ x => x.2)
  obtain ⟨hk, q⟩ := q
  cases f with
  | next =>
    obtain ⟨σ', H', I', q⟩ := q
    exact h2 pins s1 σ' H' D (Nat.le_trans h0 hk) I' (hu σ' H' q)
  | ret v => exact q
  | brk => exact q
  | cont => exact q
/-- for, its body with a token out -/
theorem pst_forT {tg iter : Expr} {body : List Stmt} {wi : TI} {g : TG} {tb : TS} (hp : PassesOwn (model X.prog X.w) X.A X.env X.xe) (hc : X.calm = true) (hi : PI X tg iter wi) (hg : PG X tg g) (hb : PSsT X body tb)
    (hs : ∀ x, foldedSetIterable iter X.env x = pure x := by intro _; rfl) : PST X (.For tg iter body [] pos) (tFor wi g tb) := by
  intro pins s σ H D h0 I h
  refine wpAny_For (wpAny_mono (PySem.wpAny_toks (hi.run pins s σ H _ I h)) (fun v s1 h1 => ?_) fun _ _ z => z.2) hs
  obtain ⟨hk1, h1⟩ := h1
  refine wpAny_mono (PySem.wpAny_toks h1) (fun itv s2 h2 => ?_) fun _ _ z => z.2
  obtain ⟨hk2, h2⟩ := h2
  obtain ⟨it, fp, tn, J, H2, e, I2, T, st2, f2, W, ⟨m0, w0⟩, turn⟩ := h2
  subst e
  have stat : ∀ {H' : Hp}, (∀ b ∈ fp, H' b = none) → ∀ b ∈ fp, FpOk X pins H' b := fun hn b hb => ⟨hn b hb, (f2 b hb).2⟩
  refine codeAny_forLoop_any (fun n s' => ∃ i σ' H', 1 ≤ s'.toks ∧ Inv X pins σ' H' s' ∧ tn i s'.heap ∧ (∀ b ∈ fp, H' b = none) ∧ W i n σ' H') ?_ m0 ⟨0, σ, H2, Nat.le_trans h0 (Nat.le_trans hk1 hk2), I2, st2, fun b hb => (f2 b hb).1, w0⟩
  rintro n s3 ⟨i, σ3, H3, k3, I3, st3, fr3, w3⟩
  rcases turn i n σ3 H3 w3 with ⟨stop, qn⟩ | ⟨go, N, hN, step⟩
  · refine wpAny_passesOwn hp (thn (T.done X rfl rfl rfl hc i pins s3 σ3 H3 X.xe I3 (stat fr3) st3 stop) fun r s4 ⟨hr, I4⟩ => ?_)
    subst hr
    exact wpAny_execs_nil ⟨σ3, H3, I4, qn⟩
  · refine wpAny_passesOwn hp (wpAny_mono (PySem.wpAny_toks (T.item X rfl rfl rfl hc i pins s3 σ3 H3 X.xe I3 (stat fr3) st3 go)) (fun r s4 q4 => ?_) fun _ _ z => z.2)
    obtain ⟨k4, u, hr, h4⟩ := q4
    subst hr
    refine wpAny_passesOwn hp (wpAny_mono (PySem.wpAny_toks h4) (fun _ s5 q5 => ?_) fun _ _ z => z.2)
    obtain ⟨k5, x, H5, I5, r5, y5, st5, fr5⟩ := q5
    have I5' := I5.pinned (stat fr5) (T.obj _ _ st5)
    refine wpAny_passesOwn hp (wpAny_mono (PySem.wpAny_toks (hg.run _ s5 σ3 H5 x u _ I5' r5 (step x H5 y5))) (fun _ s6 q6 => ?_) fun _ _ z => z.2)
    obtain ⟨k6, σ6, H6, I6, q6⟩ := q6
    have k06 := Nat.le_trans k3 (Nat.le_trans k4 (Nat.le_trans k5 k6))
    refine wpAny_passesOwn hp (wpAny_mono (PySem.wpAny_toks (hb _ s6 σ6 H6 _ k06 I6 q6)) (fun f s7 q7 => ?_) fun _ _ z => z.2)
    obtain ⟨k7, q7⟩ := q7
    have again : ∀ {σ7 : L2.St} {H7 : Hp}, Inv X (pins ++ pinsAt fp s5.heap) σ7 H7 s7 → N σ7 H7 → ∃ m, m < n ∧ ∃ i σ' H', 1 ≤ s7.toks ∧ Inv X pins σ' H' s7 ∧ tn i s7.heap ∧ (∀ b ∈ fp, H' b = none) ∧ W i m σ' H' := fun {σ7 H7} I7 n7 => by
      obtain ⟨m', hm, w7⟩ := hN σ7 H7 n7
      refine ⟨m', hm, i + 1, σ7, H7, Nat.le_trans k06 k7, I7.unpinned, T.keep _ _ _ st5 fun b hb o e => (I7.pin (b, o) (List.mem_append_right _ (List.mem_append_right _ (mem_pinsAt hb e)))).1, fun b hb => ?_, w7⟩
      obtain ⟨o, e, d⟩ := T.obj _ _ st5 b hb
      exact (I7.pin (b, o) (List.mem_append_right _ (List.mem_append_right _ (mem_pinsAt hb e)))).2.1
    cases f with
    | next => obtain ⟨σ7, H7, I7, n7⟩ := q7; exact again I7 n7
    | cont => obtain ⟨σ7, H7, I7, n7⟩ := q7; exact again I7 n7
    | brk => obtain ⟨σ7, H7, I7, q7⟩ := q7; exact ⟨σ7, H7, I7.unpinned, q7⟩
    | ret v => obtain ⟨x7, σ7, H7, I7, r7, q7⟩ := q7; exact ⟨x7, σ7, H7, I7.unpinned, r7, q7⟩
end
section
variable {P : Program} {w : World} {K : PySem.W.Frag} {mg : Str → Option Value} {base : Heap}
/-- a def with a parameter: at its entry a token is out -/
theorem okT {x qual : Str} {st : Stmt} {f : Addr} {fd : FuncData} {N ps : List Str} {k : Nat} {sp : Sp} (F : Fun K x qual st f fd) (S : FnScope N ps (defScope st)) (hnc : ∀ y ∈ (defScope st).names, y.2 ≠ .cell) (hps : 1 ≤ ps.length) (len : ∀ vs H Q E, sp vs H Q E → vs.length = ps.length)
    (hbody : ∀ (cdv : Value) (A : Around) (outer : List Env) (s : Shared) (H : Hp) (vs : List V) (Q : VK) (E : XK), Room k (A.deeper (envOfC qual (defScope st) s.heap.objs.size f cdv)) → sp vs H Q E →
      ∃ t, PSsT (cxOf CX0 P w K mg base N qual (defScope st) f cdv A outer s H E).nox (defBody st) t ∧ t { nx := fun _ H' => Q .non H', rt := Q } (start N vs) H) : FnOk P w K mg base CX0 (k + 1) f fd ps sp := by
  obtain ⟨oc, od, kV, doc, pm, an, cdv, ct, osl, rfl, lk, hcd⟩ := F.ex
  refine fn_ofT lk hcd S hnc hps len fun A outer s H vs Q E hr hsp => ?_
  obtain ⟨t, h, q⟩ := hbody cdv A outer s H vs Q E hr hsp
  exact ⟨t, fun pins s σ H D h0 I hw => wpAny_mono (h pins s σ H D h0 (I.wish _) hw) (fun _ _ q => q.unwish) fun _ _ z => False.elim z, q⟩
end
/-! ### the same as structures (so that they are not unfolded) -/
structure ET (X : Cx) (e : Expr) (t : TE) : Prop where
  run : PET X e t
structure TT1 (X : Cx) (e : Expr) (t : TT) : Prop where
  run : PTT X e t
structure TW (X : Cx) (e : Expr) (t : TT) : Prop where
  run : PWT X e t
structure ST (X : Cx) (st : Stmt) (t : TS) : Prop where
  run : PST X st t
structure SsT (X : Cx) (st : List Stmt) (t : TS) : Prop where
  run : PSsT X st t
section
variable {X : Cx} {st : Stmt} {rest : List Stmt} {t u : TS} {a b c e f : Expr} {te tf ta tb : TE} {tA tB tc : TT} {pos p apos c0 c1 : Pos} {y z : Str} {j k : Nat} {o : Expr} {to : TE}
theorem ET.of (h : PE X e te) : ET X e te := ⟨PET.of h⟩
theorem TT1.of (h : PT X e tA) : TT1 X e tA := ⟨PTT.of h⟩
theorem TW.of (h : PW X e tA) : TW X e tA := ⟨PWT.of h⟩
theorem TW.pt (h : TW X e tA) : TT1 X e tA := ⟨h.run.pt⟩
theorem ST.of (h : PS X st t) : ST X st t := ⟨PST.of h⟩
theorem SsT.of (h : PSs X rest t) : SsT X rest t := ⟨PSsT.of h⟩
theorem ss_cons (h1 : ST X st t) (h2 : SsT X rest u) : SsT X (st :: rest) (tSeq t u) := ⟨psst_cons h1.run h2.run⟩
theorem ss_cut (h1 : ST X st t) (h2 : SsT X rest u) : SsT X (st :: rest) (Evl.tCut t u) := ⟨psst_cut h1.run h2.run⟩
theorem ss_one (h : ST X st t) : SsT X [st] t := ⟨psst_one h.run⟩
theorem s_if {a b : List Stmt} (hc : TT1 X c tc) (ha : SsT X a t) (hb : SsT X b u) : ST X (.If c a b pos) (tIfS tc t u) := ⟨pst_ifT hc.run ha.run hb.run⟩
theorem s_for {tg iter : Expr} {body : List Stmt} {wi : TI} {g : TG} {tb : TS} (hp : PassesOwn (model X.prog X.w) X.A X.env X.xe) (hc : X.calm = true) (hi : PI X tg iter wi) (hg : PG X tg g) (hb : SsT X body tb)
    (hs : ∀ x, foldedSetIterable iter X.env x = pure x := by intro _; rfl) : ST X (.For tg iter body [] pos) (tFor wi g tb) := ⟨pst_forT hp hc hi hg hb.run hs⟩
theorem s_ret (he : ET X e te) : ST X (.Return (some e) pos) (tRet te) := ⟨pst_ret he.run⟩
theorem t_cmp {op : CmpOp} {r : R2} (ho : OpR X (compareOp op) r) (ha : ET X a ta) (hb : ET X b tb) (hm : behindInMarks op b = false) : TT1 X (.Compare a [op] [b] pos) (tTest (tOp r ta tb)) := ⟨ptt_cmp ho ha.run hb.run hm⟩
theorem w_and {rest : List Expr} {tB' : TT} (ha : TT1 X a tA) (hb : TW X (.BoolOp .And (b :: rest) pos) tB') : TW X (.BoolOp .And (a :: b :: rest) pos) (tAnd tA tB') := ⟨pwt_and ha.run hb.run⟩
theorem e_len {x : Str} {id : String} {r : List V → Hp → VK → Prop} (hc : CallR X (.builtin id) r) (hg : Gl X x) (hm : X.mg x = none) (hv : bootBuiltins x = some (.builtin id)) (ha : ET X e te) (hns : WP.noStar e = true := by rfl) (hn : x ≠ "__name__" := by decide) (hdb : (x == ("__debug__" : Str)) = false := by decide)
    (hpl : (backTo pos (starEach ([] : List Expr) X.env)).any (·.1) = false := by rfl) : ET X (.Call (.Name x p) [e] [] pos) (tCB r (tCons te tNil)) := ⟨pet_callB hc hg hm hv (pat_one ha.run (WP.starEach_no hns)) hn hdb (WP.starEach_no hns) hpl⟩
theorem e_op {op : Operator} {r : R2} (ho : OpR X (binaryOp op) r) (ha : ET X e te) (hb : ET X f tf) : ET X (.BinOp e op f pos) (tOp r te tf) := ⟨pet_op ho ha.run hb.run⟩
theorem e_replC (ho : PE X o to) (hyz : (y == z) = false := by decide)
    (hst : starEach [.Constant (.str y) j c0, .Constant (.str z) k c1] X.env = [(false, eval (.Constant (.str y) j c0) X.env), (false, eval (.Constant (.str z) k c1) X.env)] := by rfl)
    (hbase : attributeBase o "replace" X.env (eval o X.env) = eval o X.env := by rfl) (hline : (apos.endLine == pos.line) = true := by rfl) :
    ET X (.Call (.Attribute o "replace" apos) [.Constant (.str y) j c0, .Constant (.str z) k c1] [] pos) (tReplC to y z) := ⟨pet_replC ho hyz hst hbase hline⟩
theorem e_replT (ho : ET X o to) (hyz : (y == z) = false := by decide)
    (hst : starEach [.Constant (.str y) j c0, .Constant (.str z) k c1] X.env = [(false, eval (.Constant (.str y) j c0) X.env), (false, eval (.Constant (.str z) k c1) X.env)] := by rfl)
    (hbase : attributeBase o "replace" X.env (eval o X.env) = eval o X.env := by rfl) (hline : (apos.endLine == pos.line) = true := by rfl) :
    ET X (.Call (.Attribute o "replace" apos) [.Constant (.str y) j c0, .Constant (.str z) k c1] [] pos) (tReplC to y z) := ⟨pet_replT ho.run hyz hst hbase hline⟩
end
section
variable {P : Program} {w : World} {K : PySem.W.Frag} {mg : Str → Option Value} {base : Heap}
theorem okS {x qual : Str} {st : Stmt} {f : Addr} {fd : FuncData} {N ps : List Str} {k : Nat} {sp : Sp} (F : Fun K x qual st f fd) (S : FnScope N ps (defScope st)) (hnc : ∀ y ∈ (defScope st).names, y.2 ≠ .cell) (hps : 1 ≤ ps.length) (len : ∀ vs H Q E, sp vs H Q E → vs.length = ps.length)
    (hbody : ∀ (cdv : Value) (A : Around) (outer : List Env) (s : Shared) (H : Hp) (vs : List V) (Q : VK) (E : XK), Room k (A.deeper (envOfC qual (defScope st) s.heap.objs.size f cdv)) → sp vs H Q E →
      ∃ t, SsT (cxOf CX0 P w K mg base N qual (defScope st) f cdv A outer s H E).nox (defBody st) t ∧ t { nx := fun _ H' => Q .non H', rt := Q } (start N vs) H) : FnOk P w K mg base CX0 (k + 1) f fd ps sp :=
  okT F S hnc hps len fun cdv A outer s H vs Q E hr hsp => by
    obtain ⟨t, h, q⟩ := hbody cdv A outer s H vs Q E hr hsp
    exact ⟨t, h.run, q⟩
end
end WT
namespace WT
open PySem PySem.Spec PyProof.Rows L2 CwR
theorem repl {to : TE} {y z : Str} {σ : L2.St} {H : Hp} {Q : VK} (h : to σ H fun v H1 => ∃ x, v = .str x ∧ x.length + (x.length + 1) * z.length ≤ 16777216 ∧ Q (.str (Txt.replace x y z)) H1) : tReplC to y z σ H Q := h
end WT

namespace WZ
open PySem PySem.Spec PyProof.Rows L2
/-! ### zip of two texts -/
structure Ap (o ti to p q : Addr) : Prop where
  a1 : ti ≠ o
  a2 : to ≠ o
  a3 : p ≠ o
  a4 : q ≠ o
  b1 : ti ≠ to
  b2 : ti ≠ p
  b3 : ti ≠ q
  b4 : to ≠ p
  b5 : to ≠ q
  c1 : p ≠ q
theorem ap_new (n : Nat) : Ap (n + 4) (n + 2) (n + 3) n (n + 1) := by
  constructor <;> exact (show (_ : Nat) ≠ _ by omega)
abbrev Dr (P : Program) (w : World) (it : Addr) (x : Str) (St : Nat → Heap → Prop) : Prop :=
  ∀ A : Around, A.handled = none → Draws P w A it [it] x.cps.size (SignAt x) St
section
variable {P : Program} {w : World} {A : Around} {E : Value → Shared → Prop} {s : Shared}
theorem stE {St : Nat → Heap → Prop} {it : Addr} {x : Str} {i : Nat} {h h' : Heap} {c : Addr} (D : Dr P w it x St) (hA : A.handled = none) (st : St i h) (e : Heap.ExtBut c h h') (n : it ≠ c) : St i h' :=
  (D A hA).frame i h h' st fun b hb o ho => e b o (by rw [List.mem_singleton.mp hb]; exact n) ho
theorem live_lt {St : Nat → Heap → Prop} {it : Addr} {x : Str} {i : Nat} {h : Heap} (D : Dr P w it x St) (hA : A.handled = none) (st : St i h) : it < h.objs.size := by
  obtain ⟨o, ho⟩ := (D A hA).live i h st
  exact Heap.lt_size ho
/-- the next pair -/
theorem next_item {o ti to p q : Addr} {i j : Nat} {x y : Str} {S T : Nat → Heap → Prop} {a b : Value} {Q : Value → Shared → Prop} (hA : A.handled = none) (ap : Ap o ti to p q) (D1 : Dr P w p x S) (D2 : Dr P w q y T)
    (zo : IsZip s.heap o ti to .none) (pI : IsPair s.heap ti (.ref p) (.ref q)) (pO : IsPair s.heap to a b) (k1 : S i s.heap) (k2 : T j s.heap) (l1 : i < x.cps.size) (l2 : j < y.cps.size)
    (fin : ∀ u v h' tk, SignAt x i u → SignAt y j v → IsZip h' o ti to (rawInt s.heap.objs.size) → IsPair h' to u v → S (i + 1) h' → T (j + 1) h' → IsPair h' s.heap.objs.size u v → h'.objs.size = s.heap.objs.size + 1 →
      (∀ c ob, c ≠ o → c ≠ to → c ≠ p → c ≠ q → s.heap.get? c = some ob → h'.get? c = some ob) → Q (.ref s.heap.objs.size) { s with heap := h', toks := tk }) :
    wpAny (model P w) A (Builtin.«zip.__next__» ⟨[.ref o], []⟩) (fun f s' => ∃ v, f = .done (.ret v) ∧ Q v s') E s := by
  obtain ⟨hp, g, dn, t0, os⟩ := s
  show wpAny _ _ (field (.ref o) 2 >>= _) _ _ _
  refine wpAny_bind (wpAny_field zo rfl (x := .bool false) rfl ?_)
  show wpAny _ _ (field (.ref o) 3 >>= _) _ _ _
  refine wpAny_bind (wpAny_field zo rfl (x := .ref ti) rfl ?_)
  refine wpAny_bind (wpAny_seqItems pI rfl ?_)
  show wpAny _ _ (Builtin.SmallTypes.ownedTupleIsFree (.ref o) >>= _) _ _ _
  refine wpAny_bind (m := Builtin.SmallTypes.ownedTupleIsFree (.ref o)) ?_
  unfold Builtin.SmallTypes.ownedTupleIsFree
  refine wpAny_bind (wpAny_field zo rfl (x := .none) rfl (wpAny_pure ?_))
  simp only [if_true]
  refine wpAny_bind (wpAny_rule (wpAny_bind (wpAny_field zo rfl (x := .ref to) rfl (wpAny_bind (wpAny_setField_rec zo (by simp) fun h₁ z₁ e₁ => ?_)))))
  replace z₁ : IsZip h₁ o ti to .ellipsis := z₁
  replace e₁ : Heap.SameBut o hp h₁ := e₁
  refine wpAny_bind (m := forIn _ _ _) ?_
  simp only [List.zipIdx_cons, List.zipIdx_nil, List.forIn_cons, List.forIn_nil]
  refine wpAny_bind (wpAny_bind (wpAny_onRaise ?_))
  show wpAny _ _ (Builtin.SmallTypes.nextOf (.ref p) >>= _) _ _ ⟨h₁, g, dn, t0, os⟩
  refine wpAny_bind ((D1 _ hA).item i _ _ _ l1 (stE D1 hA k1 e₁.extBut ap.a3) fun u h₂ t1 hu s₂ e₂ => wpAny_pure ?_)
  replace e₂ : Heap.SameBut p h₁ h₂ := e₂
  have o₂ : IsPair h₂ to a b := e₂.extBut _ _ ap.b4 (e₁.extBut _ _ ap.a2 pO)
  refine wpAny_bind (wpAny_seqItems (s := ⟨h₂, g, dn, t1, os⟩) o₂ rfl ?_)
  refine wpAny_bind (wpAny_updateSeq_pair (s := ⟨h₂, g, dn, t1, os⟩) o₂ fun h₃ o₃ e₃ => ?_)
  replace o₃ : IsPair h₃ to u b := o₃
  replace e₃ : Heap.SameBut to h₂ h₃ := e₃
  refine wpAny_bind (wpAny_letGo (wpAny_pure ?_))
  refine wpAny_bind (wpAny_bind (wpAny_onRaise ?_))
  show wpAny _ _ (Builtin.SmallTypes.nextOf (.ref q) >>= _) _ _ ⟨h₃, g, dn, t1, os⟩
  have st2 : T j h₃ := stE D2 hA (stE D2 hA (stE D2 hA k2 e₁.extBut ap.a4) e₂.extBut ap.c1.symm) e₃.extBut ap.b5.symm
  refine wpAny_bind ((D2 _ hA).item j ⟨h₃, g, dn, t1, os⟩ _ _ l2 st2 fun v h₄ t2 hv s₄ e₄ => wpAny_pure ?_)
  replace e₄ : Heap.SameBut q h₃ h₄ := e₄
  have o₄ : IsPair h₄ to u b := e₄.extBut _ _ ap.b5 o₃
  refine wpAny_bind (wpAny_seqItems (s := ⟨h₄, g, dn, t2, os⟩) o₄ rfl ?_)
  refine wpAny_bind (wpAny_updateSeq_pair (s := ⟨h₄, g, dn, t2, os⟩) o₄ fun h₅ o₅ e₅ => ?_)
  replace o₅ : IsPair h₅ to u v := o₅
  replace e₅ : Heap.SameBut to h₄ h₅ := e₅
  refine wpAny_bind (wpAny_letGo (wpAny_pure (wpAny_pure ?_)))
  refine wpAny_bind (wpAny_seqItems (s := ⟨h₅, g, dn, t2, os⟩) o₅ rfl (wpAny_bind (wpAny_newTuple ?_)))
  have sz : h₅.objs.size = hp.objs.size := by rw [e₅.1, e₄.1, e₃.1, e₂.1, e₁.1]
  have z₅ : IsZip h₅ o ti to .ellipsis := e₅.extBut _ _ ap.a2.symm (e₄.extBut _ _ ap.a4.symm (e₃.extBut _ _ ap.a2.symm (e₂.extBut _ _ ap.a3.symm z₁)))
  have up5 : ∀ c ob, c ≠ o → c ≠ to → c ≠ p → c ≠ q → hp.get? c = some ob → h₅.get? c = some ob := fun c ob n1 n2 n3 n4 h =>
    e₅.extBut _ _ n2 (e₄.extBut _ _ n4 (e₃.extBut _ _ n2 (e₂.extBut _ _ n3 (e₁.extBut _ _ n1 h))))
  have s1₅ : S (i + 1) h₅ := stE D1 hA (stE D1 hA (stE D1 hA s₂ e₃.extBut ap.b4.symm) e₄.extBut ap.c1) e₅.extBut ap.b4.symm
  have s2₅ : T (j + 1) h₅ := stE D2 hA s₄ e₅.extBut ap.b5.symm
  have lo : o < h₅.objs.size := Heap.lt_size z₅
  have lt : to < h₅.objs.size := Heap.lt_size o₅
  have lp := live_lt D1 hA s1₅
  have lq := live_lt D2 hA s2₅
  show wpAny _ _ (Builtin.SmallTypes.ownedTupleHandOut (.ref o) (.ref h₅.objs.size) >>= _) _ _ _
  refine wpAny_bind (m := Builtin.SmallTypes.ownedTupleHandOut (.ref o) (.ref h₅.objs.size)) ?_
  unfold Builtin.SmallTypes.ownedTupleHandOut
  have z₆ : IsZip (h₅.push { cls := .type "tuple", data := .seq #[u, v] }) o ti to .ellipsis := Heap.get?_push_of_some _ z₅
  refine wpAny_bind (wpAny_setField_rec (s := ⟨h₅.push { cls := .type "tuple", data := .seq #[u, v] }, g, dn, t2, os⟩) z₆ (by simp) fun h₇ z₇ e₇ => ?_)
  replace z₇ : IsZip h₇ o ti to (rawInt h₅.objs.size) := z₇
  replace e₇ : Heap.SameBut o (h₅.push { cls := .type "tuple", data := .seq #[u, v] }) h₇ := e₇
  refine wpAny_setField_rec (s := ⟨h₇, g, dn, t2, os⟩) z₇ (by simp) fun h₈ z₈ e₈ => ?_
  replace z₈ : IsZip h₈ o ti to (rawInt h₅.objs.size) := z₈
  replace e₈ : Heap.SameBut o h₇ h₈ := e₈
  have up : ∀ c ob, c ≠ o → h₅.get? c = some ob → h₈.get? c = some ob := fun c ob n1 h => e₈.extBut _ _ n1 (e₇.extBut _ _ n1 (Heap.get?_push_of_some _ h))
  have t₈ : IsPair h₈ h₅.objs.size u v := e₈.extBut _ _ (Nat.ne_of_gt lo) (e₇.extBut _ _ (Nat.ne_of_gt lo) (Heap.get?_push_size _ rfl))
  have sz8 : h₈.objs.size = h₅.objs.size + 1 := by rw [e₈.1, e₇.1, Heap.size_push]
  rw [sz] at z₈ t₈ sz8
  refine wpAny_pure ⟨_, rfl, ?_⟩
  show Q (.ref h₅.objs.size) _
  rw [sz]
  have fr1 : S (i + 1) h₈ := (D1 A hA).frame _ _ _ s1₅ fun b hb ob h => by
    rw [List.mem_singleton.mp hb] at h ⊢
    exact up _ _ ap.a3 h
  have fr2 : T (j + 1) h₈ := (D2 A hA).frame _ _ _ s2₅ fun b hb ob h => by
    rw [List.mem_singleton.mp hb] at h ⊢
    exact up _ _ ap.a4 h
  exact fin u v h₈ t2 hu hv z₈ (up _ _ ap.a2 o₅) fr1 fr2 t₈ sz8 fun c ob n1 n2 n3 n4 h => up c ob n1 (up5 c ob n1 n2 n3 n4 h)
/-- no next pair -/
theorem next_end {o ti to p q : Addr} {i j : Nat} {x y : Str} {S T : Nat → Heap → Prop} {a b : Value} {Q : Fin → Shared → Prop} (hA : A.handled = none) (ap : Ap o ti to p q) (D1 : Dr P w p x S) (D2 : Dr P w q y T)
    (zo : IsZip s.heap o ti to .none) (pI : IsPair s.heap ti (.ref p) (.ref q)) (pO : IsPair s.heap to a b) (k1 : S i s.heap) (k2 : T j s.heap) (l : i = x.cps.size ∨ i < x.cps.size ∧ j = y.cps.size)
    (fin : ∀ h' e tk, (∀ c ob, c ≠ o → c ≠ to → c ≠ p → c ≠ q → s.heap.get? c = some ob → h'.get? c = some ob) → (∃ oe, h'.get? e = some oe ∧ oe.cls = .type "StopIteration") → E (.ref e) { s with heap := h', toks := tk }) :
    wpAny (model P w) A (Builtin.«zip.__next__» ⟨[.ref o], []⟩) Q E s := by
  obtain ⟨hp, g, dn, t0, os⟩ := s
  show wpAny _ _ (field (.ref o) 2 >>= _) _ _ _
  refine wpAny_bind (wpAny_field zo rfl (x := .bool false) rfl ?_)
  show wpAny _ _ (field (.ref o) 3 >>= _) _ _ _
  refine wpAny_bind (wpAny_field zo rfl (x := .ref ti) rfl ?_)
  refine wpAny_bind (wpAny_seqItems pI rfl ?_)
  show wpAny _ _ (Builtin.SmallTypes.ownedTupleIsFree (.ref o) >>= _) _ _ _
  refine wpAny_bind (m := Builtin.SmallTypes.ownedTupleIsFree (.ref o)) ?_
  unfold Builtin.SmallTypes.ownedTupleIsFree
  refine wpAny_bind (wpAny_field zo rfl (x := .none) rfl (wpAny_pure ?_))
  simp only [if_true]
  refine wpAny_bind (wpAny_rule (wpAny_bind (wpAny_field zo rfl (x := .ref to) rfl (wpAny_bind (wpAny_setField_rec zo (by simp) fun h₁ z₁ e₁ => ?_)))))
  replace z₁ : IsZip h₁ o ti to .ellipsis := z₁
  replace e₁ : Heap.SameBut o hp h₁ := e₁
  refine wpAny_bind (m := forIn _ _ _) ?_
  simp only [List.zipIdx_cons, List.zipIdx_nil, List.forIn_cons, List.forIn_nil]
  refine wpAny_bind (wpAny_bind (wpAny_onRaise ?_))
  show wpAny _ _ (Builtin.SmallTypes.nextOf (.ref p) >>= _) _ _ ⟨h₁, g, dn, t0, os⟩
  rcases l with rfl | ⟨l1, rfl⟩
  · refine wpAny_bind ((D1 _ hA).done ⟨h₁, g, dn, t0, os⟩ _ _ (stE D1 hA k1 e₁.extBut ap.a3) fun h₂ e e₂ he => ?_)
    obtain ⟨oe, hoe, hce⟩ := he
    have z₂ : IsZip h₂ o ti to .ellipsis := e₂ _ _ ap.a3.symm z₁
    have ez : e ≠ o := fun c => by subst c; rw [z₂] at hoe; cases hoe; simp at hce
    exact wpAny_setField_rec (s := ⟨h₂, g, dn, t0, os⟩) z₂ (by simp) fun h₃ _ e₃ => fin h₃ e t0 (fun c ob n1 _ n3 _ h => e₃.extBut _ _ n1 (e₂ _ _ n3 (e₁.extBut _ _ n1 h))) ⟨oe, e₃.extBut _ _ ez hoe, hce⟩
  · refine wpAny_bind ((D1 _ hA).item i ⟨h₁, g, dn, t0, os⟩ _ _ l1 (stE D1 hA k1 e₁.extBut ap.a3) fun u h₂ t1 hu s₂ e₂ => wpAny_pure ?_)
    replace e₂ : Heap.SameBut p h₁ h₂ := e₂
    have o₂ : IsPair h₂ to a b := e₂.extBut _ _ ap.b4 (e₁.extBut _ _ ap.a2 pO)
    refine wpAny_bind (wpAny_seqItems (s := ⟨h₂, g, dn, t1, os⟩) o₂ rfl ?_)
    refine wpAny_bind (wpAny_updateSeq_pair (s := ⟨h₂, g, dn, t1, os⟩) o₂ fun h₃ o₃ e₃ => ?_)
    replace e₃ : Heap.SameBut to h₂ h₃ := e₃
    refine wpAny_bind (wpAny_letGo (wpAny_pure ?_))
    refine wpAny_bind (wpAny_bind (wpAny_onRaise ?_))
    show wpAny _ _ (Builtin.SmallTypes.nextOf (.ref q) >>= _) _ _ ⟨h₃, g, dn, t1, os⟩
    have st2 := stE D2 hA (stE D2 hA (stE D2 hA k2 e₁.extBut ap.a4) e₂.extBut ap.c1.symm) e₃.extBut ap.b5.symm
    refine wpAny_bind ((D2 _ hA).done ⟨h₃, g, dn, t1, os⟩ _ _ st2 fun h₄ e e₄ he => ?_)
    obtain ⟨oe, hoe, hce⟩ := he
    have z₄ : IsZip h₄ o ti to .ellipsis := e₄ _ _ ap.a4.symm (e₃.extBut _ _ ap.a2.symm (e₂.extBut _ _ ap.a3.symm z₁))
    have ez : e ≠ o := fun c => by subst c; rw [z₄] at hoe; cases hoe; simp at hce
    exact wpAny_setField_rec (s := ⟨h₄, g, dn, t1, os⟩) z₄ (by simp) fun h₅ _ e₅ => fin h₅ e t1 (fun c ob n1 n2 n3 n4 h => e₅.extBut _ _ n1 (e₄ _ _ n4 (e₃.extBut _ _ n2 (e₂.extBut _ _ n3 (e₁.extBut _ _ n1 h))))) ⟨oe, e₅.extBut _ _ ez hoe, hce⟩
theorem py_item {o ti to p q : Addr} {i j : Nat} {x y : Str} {S T : Nat → Heap → Prop} {a b : Value} {Q : Option Value → Shared → Prop} (hA : A.handled = none) (ap : Ap o ti to p q) (D1 : Dr P w p x S) (D2 : Dr P w q y T)
    (zo : IsZip s.heap o ti to .none) (pI : IsPair s.heap ti (.ref p) (.ref q)) (pO : IsPair s.heap to a b) (k1 : S i s.heap) (k2 : T j s.heap) (l1 : i < x.cps.size) (l2 : j < y.cps.size)
    (fin : ∀ u v h' tk, SignAt x i u → SignAt y j v → IsZip h' o ti to (rawInt s.heap.objs.size) → IsPair h' to u v → S (i + 1) h' → T (j + 1) h' → IsPair h' s.heap.objs.size u v → h'.objs.size = s.heap.objs.size + 1 →
      (∀ c ob, c ≠ o → c ≠ to → c ≠ p → c ≠ q → s.heap.get? c = some ob → h'.get? c = some ob) → Q (some (.ref s.heap.objs.size)) { s with heap := h', toks := tk }) :
    wpAny (model P w) A (pyNext (.ref o)) Q E s := by
  have ty : s.TypeIs (.ref o) "zip" := ⟨_, zo, rfl⟩
  unfold pyNext
  refine wpAny_bind (wpAny_attempt (wpAny_callSpecial?_slot (name := Str.ofString "__next__") ty F.slot_zip_next (wpAny_call_entry F.slot_zip_next ty F.entry_zip_next ?_ (F.args_zip_next_1 _))))
  exact next_item hA ap D1 D2 zo pI pO k1 k2 l1 l2 fun u v h' tk b1 b2 b3 b4 b5 b6 b7 b8 b9 => wpAny_pure (fin u v h' tk b1 b2 b3 b4 b5 b6 b7 b8 b9)
theorem py_end {o ti to p q : Addr} {i j : Nat} {x y : Str} {S T : Nat → Heap → Prop} {a b : Value} {Q : Option Value → Shared → Prop} (hA : A.handled = none) (ap : Ap o ti to p q) (D1 : Dr P w p x S) (D2 : Dr P w q y T)
    (zo : IsZip s.heap o ti to .none) (pI : IsPair s.heap ti (.ref p) (.ref q)) (pO : IsPair s.heap to a b) (k1 : S i s.heap) (k2 : T j s.heap) (l : i = x.cps.size ∨ i < x.cps.size ∧ j = y.cps.size)
    (fin : ∀ h' tk, (∀ c ob, c ≠ o → c ≠ to → c ≠ p → c ≠ q → s.heap.get? c = some ob → h'.get? c = some ob) → Q none { s with heap := h', toks := tk }) : wpAny (model P w) A (pyNext (.ref o)) Q E s := by
  have ty : s.TypeIs (.ref o) "zip" := ⟨_, zo, rfl⟩
  unfold pyNext
  refine wpAny_bind (wpAny_attempt (wpAny_callSpecial?_slot (name := Str.ofString "__next__") ty F.slot_zip_next (wpAny_call_entry F.slot_zip_next ty F.entry_zip_next (next_end hA ap D1 D2 zo pI pO k1 k2 l fun h' e tk hk he => ?_) (F.args_zip_next_1 _))))
  obtain ⟨oe, hoe, hce⟩ := he
  exact wpAny_bind (wpAny_isInstance (T := "StopIteration") (b := true) ⟨oe, hoe, hce⟩ isSubtype_stop (wpAny_pure (fin _ _ hk)))
end
/-- the iterator of a text -/
def itTy (x : Str) : String := if x.cps.all (· < 128) = true then "str_ascii_iterator" else "str_iterator"
theorem dr_str {P : Program} {w : World} {it : Addr} {x : Str} {t : Tok} : Dr P w it x (fun i h => h.IsStrIter it (itTy x) x t i) := fun A hA => by
  unfold itTy
  by_cases h : x.cps.all (· < 128) = true
  · simp only [h, if_true]
    exact Draws.strAscii hA it x t
  · simp only [h, if_false]
    exact Draws.strWide hA it x t
section
variable {P : Program} {w : World} {A : Around} {E : Value → Shared → Prop} {s : Shared}
theorem iter_str {x : Str} {t : Tok} {Q : Value → Shared → Prop} (fin : Q (.ref s.heap.objs.size) { s with heap := s.heap.push { cls := .type (itTy x), data := .fields #[.str x t, .int 0 0] } }) : wpAny (model P w) A (pyIter (.str x t)) Q E s := by
  unfold itTy at fin
  cases h : x.cps.all (· < 128)
  · rw [h] at fin
    exact wpAny_pyIter_wide h fin
  · rw [h] at fin
    exact wpAny_pyIter_ascii h fin
end
abbrev P1 (h : Heap) (x : Str) (t : Tok) : Heap := h.push { cls := .type (itTy x), data := .fields #[.str x t, .int 0 0] }
abbrev P2 (h : Heap) (x y : Str) (t u : Tok) : Heap := (P1 h x t).push { cls := .type (itTy y), data := .fields #[.str y u, .int 0 0] }
abbrev P3 (h : Heap) (x y : Str) (t u : Tok) : Heap := (P2 h x y t u).push { cls := .type "tuple", data := .seq #[.ref h.objs.size, .ref (P1 h x t).objs.size] }
abbrev P4 (h : Heap) (x y : Str) (t u : Tok) : Heap := (P3 h x y t u).push { cls := .type "tuple", data := .seq #[.none, .none] }
abbrev P5 (h : Heap) (x y : Str) (t u : Tok) : Heap := (P4 h x y t u).push { cls := .type "zip", data := .fields #[.none, .bool false, .bool false, .ref (P2 h x y t u).objs.size, .ref (P3 h x y t u).objs.size] }
theorem new_str (x y : Str) (t u : Tok) : Meets (Builtin.«zip.__new__» ⟨[.type "zip", .str x t, .str y u], []⟩) (fun _ R s => R (.ok (.ret (.ref (P4 s.heap x y t u).objs.size))) { s with heap := P5 s.heap x y t u }) :=
  .of_wp fun prog w A R s h => by
    obtain ⟨hp, g, d, tk, os⟩ := s
    have hsub := sub_zip
    wp_walk using iter_str, iter_str
    exact ⟨_, rfl, h⟩
section
variable {P : Program} {w : World} {A : Around} {E : Value → Shared → Prop} {s : Shared}
theorem call_str {x y : Str} {t u : Tok} {Q : Value → Shared → Prop}
    (fin : ∀ h', IsZip h' (s.heap.objs.size + 4) (s.heap.objs.size + 2) (s.heap.objs.size + 3) .none → IsPair h' (s.heap.objs.size + 2) (.ref s.heap.objs.size) (.ref (s.heap.objs.size + 1)) → IsPair h' (s.heap.objs.size + 3) .none .none →
      h'.IsStrIter s.heap.objs.size (itTy x) x t 0 → h'.IsStrIter (s.heap.objs.size + 1) (itTy y) y u 0 → (∀ c ob, s.heap.get? c = some ob → h'.get? c = some ob) → Q (.ref (s.heap.objs.size + 4)) { s with heap := h' }) :
    wpAny (model P w) A (call (.type "zip") [.str x t, .str y u]) Q E s := by
  refine callType_new F.called_zip (by decide) (F.typeCall_zip_2 _ _) (F.newCall_zip_2 _ _) (fun obj => F.args_object_init_3 obj _ _) F.entry_zip_new (new_str x y t u) ?_
  have z1 : (P1 s.heap x t).objs.size = s.heap.objs.size + 1 := Heap.size_push ..
  have z2 : (P2 s.heap x y t u).objs.size = s.heap.objs.size + 2 := (Heap.size_push ..).trans (by rw [z1])
  have z3 : (P3 s.heap x y t u).objs.size = s.heap.objs.size + 3 := (Heap.size_push ..).trans (by rw [z2])
  have z4 : (P4 s.heap x y t u).objs.size = s.heap.objs.size + 4 := (Heap.size_push ..).trans (by rw [z3])
  have w5 : (P5 s.heap x y t u).get? (P4 s.heap x y t u).objs.size = some _ := Heap.get?_push_size _ rfl
  have w4 : (P5 s.heap x y t u).get? (P3 s.heap x y t u).objs.size = some _ := Heap.get?_push_of_some _ (Heap.get?_push_size _ rfl)
  have w3 : (P5 s.heap x y t u).get? (P2 s.heap x y t u).objs.size = some _ := Heap.get?_push_of_some _ (Heap.get?_push_of_some _ (Heap.get?_push_size _ rfl))
  have w2 : (P5 s.heap x y t u).get? (P1 s.heap x t).objs.size = some _ := Heap.get?_push_of_some _ (Heap.get?_push_of_some _ (Heap.get?_push_of_some _ (Heap.get?_push_size _ rfl)))
  have w1 : (P5 s.heap x y t u).get? s.heap.objs.size = some _ := Heap.get?_push_of_some _ (Heap.get?_push_of_some _ (Heap.get?_push_of_some _ (Heap.get?_push_of_some _ (Heap.get?_push_size _ rfl))))
  show _ ∧ _
  rw [z2, z3, z4] at w5
  rw [z1, z2] at w3
  rw [z3] at w4
  rw [z1] at w2
  rw [z4]
  refine ⟨⟨_, w5, rfl⟩, fin _ w5 w3 w4 ⟨_, w1, rfl, rfl⟩ ⟨_, w2, rfl, rfl⟩ fun c ob h => ?_⟩
  exact Heap.get?_push_of_some _ (Heap.get?_push_of_some _ (Heap.get?_push_of_some _ (Heap.get?_push_of_some _ (Heap.get?_push_of_some _ h))))
end
/-- the signs of two texts, side by side -/
def ItzS (x y : Str) : It :=
  ⟨fun i _ => i < x.cps.size ∧ i < y.cps.size,
    fun i H v H' => ∃ (T : Addr) (c d : Nat), v = .ref T ∧ H T = none ∧ x.cps[i]? = some c ∧ y.cps[i]? = some d ∧ H' = upd H T (.tup [.str ⟨#[c]⟩, .str ⟨#[d]⟩]),
    fun i _ => i = x.cps.size ∨ i < x.cps.size ∧ i = y.cps.size⟩
theorem turn_zipS {P : Program} {w : World} {K : PySem.W.Frag} {elts : List Expr} {kk : Nat} {tpos : Pos} {x y : Str} {t u : Tok} {o ti to p q : Addr} (ap : Ap o ti to p q) :
    Turn P w K (.Tuple elts kk tpos) (ItzS x y) [o, ti, to, p, q] o (fun i h => IsZip h o ti to .none ∧ IsPair h ti (.ref p) (.ref q) ∧ (∃ a b, IsPair h to a b) ∧ h.IsStrIter p (itTy x) x t i ∧ h.IsStrIter q (itTy y) y u i) where
  mem := .head _
  obj := fun i h st c hc => by
    obtain ⟨k1, k2, ⟨a, b, k3⟩, ⟨o1, e1, _, d1⟩, ⟨o2, e2, _, d2⟩⟩ := st
    have hc' : c = o ∨ c = ti ∨ c = to ∨ c = p ∨ c = q := by simpa using hc
    rcases hc' with rfl | rfl | rfl | rfl | rfl
    · exact ⟨_, k1, fun v n => nomatch n⟩
    · exact ⟨_, k2, fun v n => nomatch n⟩
    · exact ⟨_, k3, fun v n => nomatch n⟩
    · exact ⟨o1, e1, fun v n => by rw [d1] at n; cases n⟩
    · exact ⟨o2, e2, fun v n => by rw [d2] at n; cases n⟩
  keep := fun i h h' st k => by
    obtain ⟨k1, k2, ⟨a, b, k3⟩, ⟨o1, e1, r1⟩, ⟨o2, e2, r2⟩⟩ := st
    exact ⟨k o (by simp) _ k1, k ti (by simp) _ k2, ⟨a, b, k to (by simp) _ k3⟩, ⟨o1, k p (by simp) _ e1, r1⟩, ⟨o2, k q (by simp) _ e2, r2⟩⟩
  item := by
    intro X hP hw hK hc i pins s σ H E I hf st hg
    subst hP hw hK
    obtain ⟨k1, k2, ⟨a, b, k3⟩, k4, k5⟩ := st
    obtain ⟨l1, l2⟩ := hg
    have ol : o < s.heap.objs.size := Heap.lt_size k1
    refine py_item (I.ok.hd hc) ap dr_str dr_str k1 k2 k3 k4 k5 l1 l2 fun c d h' tk hcu hdv z' o' s1' s2' hT hsz hk => ?_
    obtain ⟨cc, tc, hcc, rfl⟩ := hcu
    obtain ⟨dd, td, hdd, rfl⟩ := hdv
    refine ⟨_, rfl, wpAny_letOwnedTupleGo_zip (s := { s with heap := h', toks := tk }) z' fun h'' z'' sb => ?_⟩
    have hT2 : h''.get? s.heap.objs.size = some { cls := .type "tuple", data := .seq #[.str ⟨#[cc]⟩ tc, .str ⟨#[dd]⟩ td] } := (sb.2 _ (Nat.ne_of_gt ol)).trans hT
    have new : ObjOk X.prog X.w (upd H s.heap.objs.size (.tup [.str ⟨#[cc]⟩, .str ⟨#[dd]⟩])) h'' s.heap.objs.size (.tup [.str ⟨#[cc]⟩, .str ⟨#[dd]⟩]) :=
      ⟨by show 2 ≤ sizeLine; decide, [.str ⟨#[cc]⟩ tc, .str ⟨#[dd]⟩ td], .cons ⟨tc, rfl⟩ (.cons ⟨td, rfl⟩ .nil), ⟨_, hT2, rfl, _, rfl⟩⟩
    have I1 : Inv X pins σ (upd H s.heap.objs.size (.tup [.str ⟨#[cc]⟩, .str ⟨#[dd]⟩])) { s with heap := h'', toks := tk } :=
      I.turnedNew (t' := tk) (ch := [o, ti, to, p, q]) (fun c ob hb e => (sb.2 c (fun n => hb (by simp [n]))).trans (hk c ob (fun n => hb (by simp [n])) (fun n => hb (by simp [n])) (fun n => hb (by simp [n])) (fun n => hb (by simp [n])) e)) hf (Nat.le_refl _) new
    refine ⟨.ref s.heap.objs.size, _, I1, rfl, ⟨_, cc, dd, rfl, I.hok.fresh (Nat.le_refl _), hcc, hdd, rfl⟩, ⟨z'', ?_, ⟨_, _, (sb.2 _ ap.a2).trans o'⟩, ?_, ?_⟩, fun c hcm => ?_⟩
    · exact (sb.2 _ ap.a1).trans (hk _ _ ap.a1 ap.b1 ap.b2 ap.b3 k2)
    · obtain ⟨ob, e, r⟩ := s1'
      exact ⟨ob, (sb.2 _ ap.a3).trans e, r⟩
    · obtain ⟨ob, e, r⟩ := s2'
      exact ⟨ob, (sb.2 _ ap.a4).trans e, r⟩
    · have lt : c < s.heap.objs.size := by
        have hc' : c = o ∨ c = ti ∨ c = to ∨ c = p ∨ c = q := by simpa using hcm
        rcases hc' with rfl | rfl | rfl | rfl | rfl
        · exact ol
        · exact Heap.lt_size k2
        · exact Heap.lt_size k3
        · obtain ⟨_, e, _⟩ := k4; exact Heap.lt_size e
        · obtain ⟨_, e, _⟩ := k5; exact Heap.lt_size e
      rw [upd_ne (Nat.ne_of_lt lt)]
      exact (hf c hcm).1
  done := by
    intro X hP hw hK hc i pins s σ H E I hf st hg
    subst hP hw hK
    obtain ⟨k1, k2, ⟨a, b, k3⟩, k4, k5⟩ := st
    refine py_end (I.ok.hd hc) ap dr_str dr_str k1 k2 k3 k4 k5 hg fun h' tk hk => ⟨rfl, I.turnedL (t' := tk) (ch := [o, ti, to, p, q]) (fun c ob hb e => ?_) hf⟩
    exact hk c ob (fun n => hb (by simp [n])) (fun n => hb (by simp [n])) (fun n => hb (by simp [n])) (fun n => hb (by simp [n])) e
  self := fun A i s Q E st h => wpAny_pyIter_zip st.1 h
def iZipS (ta : TA) : TI := fun σ H R => ta σ H fun vs H1 => ∃ x y : Str, vs = [.str x, .str y] ∧ R (ItzS x y) H1
theorem pi_zipS {X : Cx} {e e2 : Expr} {ta : TA} {p pos tpos : Pos} {elts : List Expr} {kk : Nat} (hg : Gl X "zip") (hm : X.mg "zip" = none) (ha : PA X [e, e2] ta)
    (h1 : starEach [e, e2] X.env = (false, eval e X.env) :: starEach [e2] X.env := by rfl) (h2 : (backTo pos (starEach [e2] X.env)).any (·.1) = false := by rfl) : PI X (.Tuple elts kk tpos) (.Call (.Name "zip" p) [e, e2] [] pos) (iZipS ta) := by
  refine ⟨fun pins s σ H R I h => ?_⟩
  refine Call_ (ld_blt I hg hm PyProof.Rows.boot_zip (PyProof.Rows.callWith_type1 (thn (ha.run pos pins s σ H _ I h) fun us s1 ⟨vs, H1, I1, r1, x, y, ex, q⟩ => ?_) h1 h2))
  subst ex
  cases r1 with
  | cons r rr =>
    cases rr with
    | cons r' rr =>
      cases rr
      obtain ⟨t, rfl⟩ := r
      obtain ⟨u, rfl⟩ := r'
      refine call_str fun h' k1 k2 k3 k4 k5 hk => wpAny_pyIter_zip k1 ?_
      have I2 : Inv X pins σ H1 { s1 with heap := h' } := I1.kept (t' := s1.toks) hk
      refine ⟨s1.heap.objs.size + 4, [s1.heap.objs.size + 4, s1.heap.objs.size + 2, s1.heap.objs.size + 3, s1.heap.objs.size, s1.heap.objs.size + 1], _, _, H1, rfl, I2, turn_zipS (t := t) (u := u) (ap_new _), ⟨k1, k2, ⟨_, _, k3⟩, k4, k5⟩, fun c hc => ?_, q⟩
      have le : s1.heap.objs.size ≤ c := by
        simp only [List.mem_cons, List.not_mem_nil, or_false] at hc
        rcases hc with e | e | e | e | e <;> subst e <;> first | exact Nat.le_refl _ | exact Nat.le_add_right _ _
      exact I1.fpOk le (I1.hok.fresh le)
/-- a loop over zip of two texts of one length -/
theorem for_zipS {l m : List Nat} {g : TG} {tb : TS} {D : Ends} {σ : L2.St} {H : Hp} (hl : l.length = m.length) (Pv : Nat → L2.St → Hp → Prop) (h0 : Pv 0 σ H)
    (hs : ∀ (i c d : Nat) (T : Addr) (σ : L2.St) (H : Hp), l[i]? = some c → m[i]? = some d → Pv i σ H → H T = none → g (.ref T) σ (upd H T (.tup [.str (SX.S [c]), .str (SX.S [d])])) fun σ2 H2 => tb { D with nx := Pv (i + 1), ct := Pv (i + 1), bk := D.nx } σ2 H2) (hd : ∀ σ H, Pv l.length σ H → D.nx σ H) :
    ∃ W : Nat → Nat → L2.St → Hp → Prop, (∃ m, W 0 m σ H) ∧ ∀ i n σ H, W i n σ H →
      ((ItzS (SX.S l) (SX.S m)).stop i H ∧ D.nx σ H) ∨ ((ItzS (SX.S l) (SX.S m)).go i H ∧ ∃ N : L2.St → Hp → Prop, (∀ σ' H', N σ' H' → ∃ m', m' < n ∧ W (i + 1) m' σ' H') ∧ ∀ v H', (ItzS (SX.S l) (SX.S m)).yld i H v H' → g v σ H' fun σ2 H2 => tb { D with nx := N, ct := N, bk := D.nx } σ2 H2) := by
  refine ⟨fun i n σ H => n = l.length - i ∧ i ≤ l.length ∧ Pv i σ H, ⟨l.length, rfl, Nat.zero_le _, h0⟩, ?_⟩
  rintro i n σ H ⟨rfl, hi, pv⟩
  by_cases lt : i < l.length
  · refine .inr ⟨⟨show i < l.length from lt, show i < m.length by omega⟩, Pv (i + 1), fun σ' H' p' => ⟨l.length - (i + 1), by omega, rfl, lt, p'⟩, fun v H' y => ?_⟩
    obtain ⟨T, c, d, rfl, hT, hc, hd', rfl⟩ := y
    exact hs i c d T σ H (by rw [← hc]; simp [SX.S]) (by rw [← hd']; simp [SX.S]) pv hT
  · have e : i = l.length := by omega
    subst e
    exact .inl ⟨.inl rfl, hd σ H pv⟩
end WZ
namespace WP
open PySem PySem.Spec PyProof.Rows L2 WZ
theorem zipS {ta : TA} {σ : L2.St} {H : Hp} {R : It → Hp → Prop} (h : ta σ H fun vs H1 => ∃ x y : Str, vs = [.str x, .str y] ∧ R (ItzS x y) H1) : iZipS ta σ H R := h
theorem Sm.mut {H H' : Hp} {p : Addr} {xs ys : List V} (e : Sm H H') (h : H p = none) (hp : H' p = some (.lst xs)) : Sm H (upd H' p (.lst ys)) := by
  refine ⟨fun b u hb nt => ?_, fun P hP => ?_⟩
  · rw [upd_ne (ne_of_none hb h)]
    exact e.k b u hb nt
  · obtain ⟨ps, h1, h2⟩ := e.t P hP
    have n : P ≠ p := fun z => by rw [z, hp] at h1; cases h1
    exact ⟨ps, by rw [upd_ne n]; exact h1, h2⟩
/-- a comprehension over zip of two texts of one length -/
theorem lc_zipS {l m : List Nat} {g : TG} {tt : TT} {te : TE} {vs : List Nat} {σ : L2.St} {H1 : Hp} {D : Addr} {Qd : Hp → Prop} (hl : l.length = m.length) (Pv : Nat → Hp → Prop) (h0 : Pv 0 (upd H1 D (.lst [])))
    (hs : ∀ (i c d : Nat) (T : Addr) (H : Hp), l[i]? = some c → m[i]? = some d → Pv i H → H T = none → g (.ref T) (wipe σ vs) (upd H T (.tup [.str (SX.S [c]), .str (SX.S [d])])) fun σ2 H2 => wipe σ2 vs = wipe σ vs ∧ tt σ2 H2 fun b H3 =>
      if b = true then te σ2 H3 fun y H4 => ∃ acc, H4 D = some (.lst acc) ∧ acc.length < sizeLine ∧ Pv (i + 1) (upd H4 D (.lst (acc ++ [y]))) else Pv (i + 1) H3) (hd : ∀ H, Pv l.length H → Qd H) :
    ∃ W : Nat → Nat → Hp → Prop, (∃ m, W 0 m (upd H1 D (.lst []))) ∧ ∀ i n H, W i n H →
      ((ItzS (SX.S l) (SX.S m)).stop i H ∧ Qd H) ∨ ((ItzS (SX.S l) (SX.S m)).go i H ∧ ∃ Nx : Hp → Prop, (∀ H', Nx H' → ∃ m', m' < n ∧ W (i + 1) m' H') ∧ ∀ x H', (ItzS (SX.S l) (SX.S m)).yld i H x H' → g x (wipe σ vs) H' fun σ2 H2 => wipe σ2 vs = wipe σ vs ∧ tt σ2 H2 fun b H3 =>
        if b = true then te σ2 H3 fun y H4 => ∃ acc, H4 D = some (.lst acc) ∧ acc.length < sizeLine ∧ Nx (upd H4 D (.lst (acc ++ [y]))) else Nx H3) := by
  refine ⟨fun i n H => n = l.length - i ∧ i ≤ l.length ∧ Pv i H, ⟨l.length, rfl, Nat.zero_le _, h0⟩, ?_⟩
  rintro i n H ⟨rfl, hi, pv⟩
  by_cases lt : i < l.length
  · refine .inr ⟨⟨show i < l.length from lt, show i < m.length by omega⟩, Pv (i + 1), fun H' p' => ⟨l.length - (i + 1), by omega, rfl, lt, p'⟩, fun v H' y => ?_⟩
    obtain ⟨T, c, d, rfl, hT, hc, hd', rfl⟩ := y
    exact hs i c d T H (by rw [← hc]; simp [SX.S]) (by rw [← hd']; simp [SX.S]) pv hT
  · have e : i = l.length := by omega
    subst e
    exact .inl ⟨.inl rfl, hd H pv⟩
end WP

namespace WP
open PySem PySem.Spec PyProof.Rows L2
/-! ### lists of counts and of truths -/
abbrev iL (l : List Nat) : List V := l.map fun (w : Nat) => V.int (w : Int)
abbrev bL (l : List Bool) : List V := l.map V.bl
section
variable {K : PySem.W.Frag} {H : Hp} {p : Addr} {Q : VK} {l : List Nat} {bs : List Bool} {j : Nat}
theorem at_iL (h : j < l.length) : atI (iL l) (j : Int) = some (.int ((l.getD j 0 : Nat) : Int)) := atI_nat (by rw [List.getElem?_map, List.getElem?_eq_getElem h, List.getD_eq_getElem?_getD, List.getElem?_eq_getElem h]; rfl)
theorem at_bL (h : j < bs.length) : atI (bL bs) (j : Int) = some (.bl (bs.getD j false)) := atI_nat (by rw [List.getElem?_map, List.getElem?_eq_getElem h, List.getD_eq_getElem?_getD, List.getElem?_eq_getElem h]; rfl)
theorem at_rev {v : Nat} {q : List Nat} : atI (iL (v :: q).reverse) (-1) = some (.int (v : Int)) := by
  rw [List.reverse_cons, show iL (q.reverse ++ [v]) = iL q.reverse ++ [.int (v : Int)] from List.map_append]
  exact atI_last _ _
theorem set_iL {v : Nat} : (iL l).set j (.int (v : Int)) = iL (l.set j v) := by unfold iL; rw [List.map_set]
theorem set_bL {b : Bool} : (bL bs).set j (.bl b) = bL (bs.set j b) := by unfold bL; rw [List.map_set]
theorem app_iL {v : Nat} : iL l ++ [.int (v : Int)] = iL (l ++ [v]) := by unfold iL; rw [List.map_append]; rfl
theorem app_rev {v : Nat} {q : List Nat} : iL q.reverse ++ [.int (v : Int)] = iL (v :: q).reverse := by rw [List.reverse_cons, app_iL]
theorem setN {xs : List V} {v : V} {R : Hp → Prop} (hp : H p = some (.lst xs)) (hj : j < xs.length) (q : R (upd H p (.lst (xs.set j v)))) : rSetL (.ref p) (.int (j : Int)) v H R := setL hp (Evl.ixN_nat hj) q
theorem popRev {v : Nat} {r : List Nat} (hp : H p = some (.lst (iL (v :: r).reverse))) (q : Q (.int (v : Int)) (upd H p (.lst (iL r.reverse)))) : rPop (.ref p) [] H Q := by
  refine ⟨p, _, .int (v : Int), rfl, rfl, hp, ?_, ?_⟩
  · unfold iL
    rw [List.reverse_cons, List.map_append, List.length_append]
    show (_ ++ [V.int (v : Int)])[_ + 1 - 1]? = _
    rw [Nat.add_sub_cancel, List.getElem?_append_right (Nat.le_refl _), Nat.sub_self]; rfl
  · unfold iL at q ⊢
    rw [List.reverse_cons, List.map_append]
    show Q _ (upd H p (.lst ((_ ++ [V.int (v : Int)]).dropLast)))
    rw [List.dropLast_concat]; exact q
theorem tr_rev {v : Nat} {q : List Nat} : (!(iL (v :: q).reverse).isEmpty) = true := by
  unfold iL
  rw [List.reverse_cons, List.map_append]
  cases List.map (fun (w : Nat) => V.int (w : Int)) q.reverse <;> rfl
theorem trL {xs : List V} (h : SqL K H p xs) : TruV K (.ref p) H (!xs.isEmpty) := .inl ⟨xs, h, rfl⟩
end
section
variable {K : PySem.W.Frag} {H : Hp} {p : Addr} {Q : VK} {l : List Nat} {v : Nat}
theorem inV_N : ∀ {l : List Nat}, inV (.int (v : Int)) (iL l) = decide (v ∈ l)
  | [] => rfl
  | a :: l => by
    show (eqV (.int (a : Int)) (.int (v : Int)) || inV (.int (v : Int)) (iL l)) = _
    rw [inV_N]
    show (((a : Int) == (v : Int)) || _) = _
    by_cases h : a = v
    · subst h; simp
    · rw [show ((a : Int) == (v : Int)) = false from by rw [beq_eq_false_iff_ne]; omega, Bool.false_or]
      congr 1
      exact propext ⟨fun z => List.mem_cons_of_mem _ z, fun z => by
        rcases List.mem_cons.mp z with z | z
        · exact absurd z.symm h
        · exact z⟩
theorem flat_N : ∀ (l : List Nat), (iL l).all flatV = true
  | [] => rfl
  | a :: l => flat_N l
theorem inNL (h : SqL K H p (iL l)) (q : Q (.bl (decide (v ∈ l))) H) : rIn K false (.int (v : Int)) (.ref p) H Q := ⟨p, _, rfl, .inl h, rfl, flat_N l, by rw [inV_N]; exact q⟩
theorem inNT (h : SqT K H p (iL l)) (q : Q (.bl (decide (v ∈ l))) H) : rIn K false (.int (v : Int)) (.ref p) H Q := ⟨p, _, rfl, .inr h, rfl, flat_N l, by rw [inV_N]; exact q⟩
theorem notInNL (h : SqL K H p (iL l)) (q : Q (.bl (!decide (v ∈ l))) H) : rIn K true (.int (v : Int)) (.ref p) H Q := ⟨p, _, rfl, .inl h, rfl, flat_N l, by rw [inV_N]; exact q⟩
theorem notInNT (h : SqT K H p (iL l)) (q : Q (.bl (!decide (v ∈ l))) H) : rIn K true (.int (v : Int)) (.ref p) H Q := ⟨p, _, rfl, .inr h, rfl, flat_N l, by rw [inV_N]; exact q⟩
/-- sorted(a list of counts) -/
theorem sortedN (h : SqL K H p (iL l)) (hz : l.length < 64) (q : ∀ (l' : List Nat) (a : Addr), l'.Perm l → H a = none → Q (.ref a) (upd H a (.lst (iL l')))) : rSorted K [.ref p] H Q := by
  refine ⟨p, l.map fun (w : Nat) => (w : Int), rfl, by rw [List.map_map]; exact h, by rw [List.length_map]; exact hz, fun ns' a hp _ ha => ?_⟩
  have e2 : ns'.map V.int = iL (ns'.map Int.toNat) := by
    unfold iL
    rw [List.map_map]
    refine List.map_congr_left fun x hx => ?_
    obtain ⟨w, _, rfl⟩ := List.mem_map.mp ((hp.mem_iff).mp hx)
    rfl
  rw [e2]
  refine q _ a ?_ ha
  have := hp.map Int.toNat
  rw [List.map_map] at this
  rw [show l.map (Int.toNat ∘ fun (w : Nat) => (w : Int)) = l from by simp [Function.comp_def]] at this
  exact this
end
section
variable {σ : L2.St} {H : Hp} {D : Ends} {Q : VK} {td ty tv : TE} {d : Addr} {kvs : List (Key × V)} {i : Int} {v : V}
theorem dnewK (q : ∀ p, H p = none → Q (.ref p) (upd H p (.dK []))) : tDNewK σ H Q := q
theorem din (h : ty σ H fun y H1 => td σ H1 fun x H2 => ∃ a o, x = .ref a ∧ DGet H2 a y o ∧ Q (.bl o.isSome) H2) : tDIn ty td σ H Q := h
theorem dnotin (h : ty σ H fun y H1 => td σ H1 fun x H2 => ∃ a o, x = .ref a ∧ DGet H2 a y o ∧ Q (.bl (!o.isSome)) H2) : tDNotIn ty td σ H Q := h
theorem dput (h : tv σ H fun v H1 => td σ H1 fun x H2 => ty σ H2 fun y H3 => ∃ a H4, x = .ref a ∧ DPut H3 a y v H4 ∧ D.nx σ H4) : sDPut td ty tv D σ H := h
theorem inK (hd : H d = some (.dK kvs)) (q : Q (.bl (valV kvs (Sum.inl i)).isSome) H) : ∃ a o, V.ref d = .ref a ∧ DGet H a (.int i) o ∧ Q (.bl o.isSome) H := ⟨d, _, rfl, DGet.k (k := Sum.inl i) hd, q⟩
theorem notInK (hd : H d = some (.dK kvs)) (q : Q (.bl (!(valV kvs (Sum.inl i)).isSome)) H) : ∃ a o, V.ref d = .ref a ∧ DGet H a (.int i) o ∧ Q (.bl (!o.isSome)) H := ⟨d, _, rfl, DGet.k (k := Sum.inl i) hd, q⟩
theorem getK (hd : H d = some (.dK kvs)) (e : valV kvs (Sum.inl i) = some v) (q : Q v H) : ∃ a v, V.ref d = .ref a ∧ DGet H a (.int i) (some v) ∧ Q v H := ⟨d, v, rfl, e ▸ DGet.k (k := Sum.inl i) hd, q⟩
theorem gotK (hd : H d = some (.dK kvs)) (e : valV kvs (Sum.inl i) = some v) : DGet H d (.int i) (some v) := e ▸ DGet.k (k := Sum.inl i) hd
theorem putKI {R : Hp → Prop} (hd : H d = some (.dK kvs)) (hl : kvs.length < sizeLine) (q : R (upd H d (.dK (putK kvs (Sum.inl i) v)))) : ∃ a H4, V.ref d = .ref a ∧ DPut H a (.int i) v H4 ∧ R H4 := ⟨d, _, rfl, DPut.k (k := Sum.inl i) hd hl, q⟩
end
theorem ix_tupK {X : Cx} {K : PySem.W.Frag} (h : X.K = K) : IxR X (rIxT K) := by subst h; exact ix_tup
theorem ix_listK {X : Cx} {K : PySem.W.Frag} (h : X.K = K) : IxR X (rIxL K) := by subst h; exact ix_list
theorem tupRev {K : PySem.W.Frag} {te : TE} {σ : L2.St} {H : Hp} {Q : VK} (h : te σ H fun v H1 => ∃ (a : Addr) (xs : List V), v = .ref a ∧ SqL K H1 a xs ∧ ∀ q, H1 q = none → Q (.ref q) (upd H1 q (.tup xs.reverse))) : RT.tTupRev K te σ H Q := h
theorem rev {K : PySem.W.Frag} {ta : TA} {σ : L2.St} {H : Hp} {R : It → Hp → Prop} (h : ta σ H fun vs H1 => ∃ (a : Addr) (xs : List V), vs = [.ref a] ∧ SqL K H1 a xs ∧ R (Itv K a xs.length) H1) : iRev K ta σ H R := h
end WP

namespace WP
open PySem PySem.Spec PyProof.Rows L2
/-! ### own classes -/
structure ClsOk (K : PySem.W.Frag) (mg : MG) (nm : Str) (at' : List Str) : Prop where
  m : mg nm = some (.ref (ca mg nm))
  c : Cls K (ca mg nm)
  n : ∀ f ∈ at', NoAttr K (ca mg nm) f
theorem ClsOk.mk' {K : PySem.W.Frag} {mg : MG} {nm : Str} {at' : List Str} {C : Addr} (h : mg nm = some (.ref C)) (c : Cls K C) (n : ∀ f ∈ at', NoAttr K C f) : ClsOk K mg nm at' := by
  have e := ca_of h
  exact ⟨by rw [e]; exact h, by rw [e]; exact c, by rw [e]; exact n⟩
/-- a method that may be called -/
structure CalleeM (P : Program) (w : World) (K : PySem.W.Frag) (mg : MG) (base : Heap) (CX : CXT) (lv : Nat) (nm m : Str) (ps : List Str) (sp : Sp) : Prop where
  ex : ∃ (f : Addr) (fd : FuncData), FnOk P w K mg base CX lv f fd ps sp ∧ Meth K (ca mg nm) m f ∧ Binds K fd ps []
theorem CalleeM.mk' {P : Program} {w : World} {K : PySem.W.Frag} {mg : MG} {base : Heap} {CX : CXT} {lv : Nat} {nm m : Str} {ps : List Str} {sp : Sp} {C f : Addr} {fd : FuncData}
    (h : FnOk P w K mg base CX lv f fd ps sp) (hc : mg nm = some (.ref C)) (hm : Meth K C m f) (b : Binds K fd ps []) : CalleeM P w K mg base CX lv nm m ps sp := ⟨⟨f, fd, h, by rw [ca_of hc]; exact hm, b⟩⟩
/-- a class that may be made -/
structure CalleeI (P : Program) (w : World) (K : PySem.W.Frag) (mg : MG) (base : Heap) (CX : CXT) (lv : Nat) (nm : Str) (ps : List Str) (sp : Sp) : Prop where
  ex : ∃ (f : Addr) (fd : FuncData), FnOk P w K mg base CX lv f fd ps sp ∧ Mk K (ca mg nm) f ∧ Binds K fd ps []
theorem CalleeI.mk' {P : Program} {w : World} {K : PySem.W.Frag} {mg : MG} {base : Heap} {CX : CXT} {lv : Nat} {nm : Str} {ps : List Str} {sp : Sp} {C f : Addr} {fd : FuncData}
    (h : FnOk P w K mg base CX lv f fd ps sp) (hc : mg nm = some (.ref C)) (hm : Mk K C f) (b : Binds K fd ps []) : CalleeI P w K mg base CX lv nm ps sp := ⟨⟨f, fd, h, by rw [ca_of hc]; exact hm, b⟩⟩
section
variable {K : PySem.W.Frag} {σ : L2.St} {H : Hp} {Q : VK} {ta tv : TE} {t : TA} {f m : Str} {p C dx : Addr} {fs : List (Str × V)} {v : V} {D : Ends} {sp : Sp} {dvs : List V} {E : XK} {mg : MG} {nm : Str} {at' : List Str}
/-- steps -/
theorem fld (h : ta σ H fun x H1 => ∃ a C dx fs v, x = .ref a ∧ H1 a = some (.ins C dx fs) ∧ Cls K C ∧ NoAttr K C f ∧ fs.lookup f = some v ∧ Q v H1) : tFld K ta f σ H Q := h
theorem fldA (k : ClsOk K mg nm at') (hp : H p = some (.ins (ca mg nm) dx fs)) (hl : fs.lookup f = some v) (q : Q v H) (hm : f ∈ at' := by decide +kernel) :
    ∃ a C dx fs v, V.ref p = .ref a ∧ H a = some (.ins C dx fs) ∧ Cls K C ∧ NoAttr K C f ∧ fs.lookup f = some v ∧ Q v H := ⟨p, _, dx, fs, v, rfl, hp, k.c, k.n f hm, hl, q⟩
theorem sfld (h : tv σ H fun y H1 => ta σ H1 fun x H2 => ∃ a C dx fs, x = .ref a ∧ H2 a = some (.ins C dx fs) ∧ Cls K C ∧ NoAttr K C f ∧ fs.length < 1000 ∧ D.nx σ (upd H2 a (.ins C dx (putF f y fs)))) : sFld K ta tv f D σ H := h
theorem sfldA {R : Hp → Prop} (k : ClsOk K mg nm at') (hp : H p = some (.ins (ca mg nm) dx fs)) (hl : fs.length < 1000) (q : R (upd H p (.ins (ca mg nm) dx (putF f v fs)))) (hm : f ∈ at' := by decide +kernel) :
    ∃ a C dx fs, V.ref p = .ref a ∧ H a = some (.ins C dx fs) ∧ Cls K C ∧ NoAttr K C f ∧ fs.length < 1000 ∧ R (upd H a (.ins C dx (putF f v fs))) := ⟨p, _, dx, fs, rfl, hp, k.c, k.n f hm, hl, q⟩
theorem meth (h : ta σ H fun x H1 => ∃ a dx fs, x = .ref a ∧ H1 a = some (.ins C dx fs) ∧ fs.lookup m = none ∧ t σ H1 fun vs H2 => sp (x :: (vs ++ dvs)) H2 Q E) : tMeth C m sp dvs E ta t σ H Q := h
theorem methA {R : Hp → Prop} (hp : H p = some (.ins C dx fs)) (hl : fs.lookup m = none) (q : R H) : ∃ a dx fs, V.ref p = .ref a ∧ H a = some (.ins C dx fs) ∧ fs.lookup m = none ∧ R H := ⟨p, dx, fs, rfl, hp, hl, q⟩
theorem make (h : t σ H fun vs H1 => ∀ x dx, H1 x = none → H1 dx = none → dx ≠ x → sp (.ref x :: (vs ++ dvs)) (upd (upd H1 dx (.own x)) x (.ins C dx [])) (fun v H2 => v = .non ∧ Q (.ref x) H2) E) : tMake C sp dvs E t σ H Q := h
end
theorem same_made {H : Hp} {x dx C : Addr} (nx : H x = none) (nd : H dx = none) : Same H (upd (upd H dx (.own x)) x (.ins C dx [])) := fun b o e => by
  rw [upd_ne (ne_of_none e nx), upd_ne (ne_of_none e nd)]
  exact e
/-! ### list of a text -/
def rListS : List V → Hp → VK → Prop := fun xs H Q => ∃ l : List Nat, xs = [.str (SX.S l)] ∧ l.length ≤ sizeLine ∧ ∀ p, H p = none → Q (.ref p) (upd H p (.lst ((l.map fun c => SX.S [c]).map V.str)))
theorem signs_vals {l : List Nat} {acc : Array Value} (h : ItemsOf (SignAt (SX.S l)) acc (SX.S l).cps.size) : Vals ((l.map fun c => SX.S [c]).map V.str) acc.toList := by
  obtain ⟨h1, h2⟩ := h
  have hs : (SX.S l).cps.size = l.length := by simp [SX.S]
  rw [hs] at h1
  have g : ∀ (xs : List Nat) (us : List Value), xs.length = us.length → (∀ (j : Nat) (u : Value), us[j]? = some u → ∃ (c : Nat) (t : Tok), xs[j]? = some c ∧ u = .str ⟨#[c]⟩ t) → Vals ((xs.map fun c => SX.S [c]).map V.str) us := by
    intro xs
    induction xs with
    | nil =>
      intro us hl _
      have : us = [] := List.length_eq_zero_iff.mp hl.symm
      subst this
      exact .nil
    | cons x xs ih =>
      intro us hl hu
      match us, hl, hu with
      | u :: us, hl, hu =>
        obtain ⟨c, t, hc, rfl⟩ := hu 0 u rfl
        cases hc
        exact .cons ⟨t, rfl⟩ (ih us (by simpa using hl) fun j u' hj => hu (j + 1) u' hj)
  refine g l acc.toList (h1.symm.trans Array.length_toList.symm) fun j u hj => ?_
  rw [Array.getElem?_toList] at hj
  obtain ⟨c, t, hc, e⟩ := h2 j u hj
  refine ⟨c, t, ?_, e⟩
  rw [← hc]; simp [SX.S]
theorem c_listS {X : Cx} (hc : X.calm = true) : CallR X (.type "list") rListS := by
  intro pins s σ H xs us Q I r h
  obtain ⟨l, rfl, hl, q⟩ := h
  obtain ⟨u, rfl, rx⟩ := vals1 r
  obtain ⟨t, rfl⟩ := rx
  have hz : (SX.S l).cps.size ≤ sizeLine := by
    have : (SX.S l).cps.size = l.length := by simp [SX.S]
    omega
  refine call_list_str (I.ok.hd hc) (SX.S l) t (fun h' tk acc' c' kp e hit => ?_) hz
  refine ⟨.ref s.heap.objs.size, _, I.laid (t' := tk) kp (Nat.le_refl _) (show ObjOk X.prog X.w _ h' _ (.lst ((l.map fun c => SX.S [c]).map V.str)) from ⟨?_, acc'.toList, c', signs_vals hit, ?_⟩), rfl, q _ (I.hok.fresh (Nat.le_refl _))⟩
  · rw [List.length_map, List.length_map]; exact hl
  · exact e
theorem listS {l : List Nat} {H : Hp} {Q : VK} (hl : l.length ≤ sizeLine) (q : ∀ p, H p = none → Q (.ref p) (upd H p (.lst ((l.map fun c => SX.S [c]).map V.str)))) : rListS [.str (SX.S l)] H Q := ⟨l, rfl, hl, q⟩
/-! ### xs[a:b] = ys -/
def gSl (to : TE) (tl th : TO) : TG := fun v σ H QS => to σ H fun o H1 => tl σ H1 fun a H2 => th σ H2 fun c H3 => ∃ (p b : Addr) (xs ys : List V) (i j : Int), o = .ref p ∧ a = some i ∧ c = some j ∧ v = .ref b ∧ H3 p = some (.lst xs) ∧ H3 b = some (.lst ys) ∧ p ≠ b ∧ 0 ≤ i ∧ i ≤ j ∧ j ≤ xs.length ∧ xs.length + ys.length ≤ sizeLine ∧
  QS σ (upd H3 p (.lst (xs.take i.toNat ++ ys ++ xs.drop j.toNat)))
theorem pg_sl {X : Cx} {o : Expr} {lo hi : Option Expr} {p2 pos : Pos} {to : TE} {tl th : TO} (ho : PE X o to) (hl : PO X lo tl) (hu : PO X hi th)
    (ha : ∀ v, assign (.Subscript o (.Slice lo hi none p2) pos) X.env v = (do
      let q ← holding [v] (eval o X.env)
      let z ← holding [v, q] (eval (.Slice lo hi none p2) X.env)
      standAt pos
      holding [v, q, z] (setItem q z v)
      release [z, v, q] []) := by intro _; rfl) : PG X (.Subscript o (.Slice lo hi none p2) pos) (gSl to tl th) := by
  refine ⟨fun pins s σ H v u Q I r h => ?_⟩
  rw [ha]
  refine wpAny_bind (wpAny_holding (thn (ho.run pins s σ H _ I h) fun ov s1 ⟨x, H1, I1, r1, q1⟩ => ?_))
  refine wpAny_bind (wpAny_holding (wpAny_Slice (thn (hl.run pins s1 σ H1 _ I1 q1) fun vl s2 ⟨l, H2, I2, pl, q2⟩ => thn (hu.run pins s2 σ H2 _ I2 q2) fun vu s3 ⟨w, H3, I3, pu, q3⟩ => ?_)))
  rw [evalPart_none]
  refine wpAny_pure ?_
  obtain ⟨p, b, xs, ys, i, j, e1, e2, e3, e4, h1, h2, n, b0, b1, b2, hz, q⟩ := q3
  subst e1 e2 e3 e4
  have I4 : Inv X pins σ H3 { s3 with heap := s3.heap.push { cls := .type "slice", data := .fields #[vl, vu, .none] } } := I3.kept (t' := s3.toks) fun _ _ e => Heap.get?_push_of_some _ e
  cases r1
  cases r
  have ri : RelV (.int i) vl := by cases pl; exact ⟨_, rfl⟩
  have rj : RelV (.int j) vu := by cases pu; exact ⟨_, rfl⟩
  refine wpAny_bind (wpAny_standAt (wpAny_bind (wpAny_holding (set_slice I4 h1 h2 n (Heap.IsSliceOf.new ..) ri rj b0 b1 b2 hz fun s' I5 => ?_))))
  exact wpAny_release ⟨σ, _, I5, q⟩
theorem gsl {to : TE} {tl th : TO} {v : V} {σ : L2.St} {H : Hp} {QS : L2.St → Hp → Prop} (h : to σ H fun o H1 => tl σ H1 fun a H2 => th σ H2 fun c H3 => ∃ (p b : Addr) (xs ys : List V) (i j : Int), o = .ref p ∧ a = some i ∧ c = some j ∧ v = .ref b ∧ H3 p = some (.lst xs) ∧ H3 b = some (.lst ys) ∧ p ≠ b ∧ 0 ≤ i ∧ i ≤ j ∧ j ≤ xs.length ∧ xs.length + ys.length ≤ sizeLine ∧
  QS σ (upd H3 p (.lst (xs.take i.toNat ++ ys ++ xs.drop j.toNat)))) : gSl to tl th v σ H QS := h
/-- a list's slice -/
theorem slL {K : PySem.W.Frag} {p : Addr} {xs : List V} {lo hi : Option Int} {H : Hp} {Q : VK} (h : SqL K H p xs) (q : ∀ a, H a = none → Q (.ref a) (upd H a (.lst (cutV xs lo hi)))) : rSlL K (.ref p) lo hi H Q := ⟨p, xs, rfl, h, q⟩
theorem cut_nat {xs : List V} {i j : Nat} (h : i ≤ j) (hj : j ≤ xs.length) : cutV xs (some (i : Int)) (some (j : Int)) = (xs.drop i).take (j - i) := by
  have e1 : HT.sIx xs.length 0 (some (i : Int)) = i := by
    show (if (i : Int) < 0 then ((i : Int) + (xs.length : Int)).toNat else min (i : Int).toNat xs.length) = i
    rw [if_neg (by omega)]; omega
  have e2 : HT.sIx xs.length xs.length (some (j : Int)) = j := by
    show (if (j : Int) < 0 then ((j : Int) + (xs.length : Int)).toNat else min (j : Int).toNat xs.length) = j
    rw [if_neg (by omega)]; omega
  unfold cutV
  rw [e1, e2]
/-- all(xs) -/
theorem allL {K : PySem.W.Frag} {p : Addr} {bs : List Bool} {H : Hp} {Q : VK} (h : SqL K H p (bs.map V.bl)) (q : Q (.bl (bs.all _root_.id)) H) : rAll K [.ref p] H Q := ⟨p, bs, rfl, h, q⟩
theorem lookS {f : Str} {v : V} : List.lookup f [(f, v)] = some v := by
  show (match f == f with | true => some v | false => _) = some v
  rw [beq_self_eq_true]
section
variable {K : PySem.W.Frag} {σ : L2.St} {H : Hp} {Q : VK} {ta : TE} {f m : Str} {p dx C : Addr} {fs : List (Str × V)} {v : V} {mg : MG} {nm : Str} {at' : List Str} {i : Nat} {sp : Sp} {dvs : List V} {E : XK} {t : TA}
theorem fldV (k : ClsOk K mg nm at') (hv : σ[i]? = some (some (.ref p))) (hp : H p = some (.ins (ca mg nm) dx fs)) (hl : fs.lookup f = some v) (hm : f ∈ at') (q : Q v H) : tFld K (tVar i) f σ H Q := ⟨.ref p, hv, p, _, dx, fs, v, rfl, hp, k.c, k.n f hm, hl, q⟩
theorem fldG (k : ClsOk K mg nm at') (hm : f ∈ at') (q : ta σ H fun x H1 => ∃ p dx fs v, x = .ref p ∧ H1 p = some (.ins (ca mg nm) dx fs) ∧ fs.lookup f = some v ∧ Q v H1) (mono : ∀ (R R' : VK), (∀ x H, R x H → R' x H) → ta σ H R → ta σ H R') : tFld K ta f σ H Q :=
  mono _ _ (fun x H1 ⟨p, dx, fs, v, e, hp, hl, q⟩ => ⟨p, _, dx, fs, v, e, hp, k.c, k.n f hm, hl, q⟩) q
theorem methV (hv : σ[i]? = some (some (.ref p))) (hp : H p = some (.ins C dx fs)) (hl : fs.lookup m = none) (q : t σ H fun vs H2 => sp (.ref p :: (vs ++ dvs)) H2 Q E) : tMeth C m sp dvs E (tVar i) t σ H Q := ⟨.ref p, hv, p, dx, fs, rfl, hp, hl, q⟩
end
end WP

namespace WP
open PySem PySem.Spec PyProof.Rows L2
theorem at_M {α : Type} {l : List α} (f : α → V) {i : Int} (h0 : 0 ≤ i) (h1 : i < (l.length : Int)) : ∃ c, c ∈ l ∧ atI (l.map f) i = some (f c) := by
  have hl : i.toNat < l.length := by omega
  refine ⟨l[i.toNat], List.getElem_mem hl, ?_⟩
  have := atI_nat (xs := l.map f) (j := i.toNat) (by rw [List.getElem?_map, List.getElem?_eq_getElem hl]; rfl)
  rw [Int.toNat_of_nonneg h0] at this
  exact this
theorem flat_one {α : Type} (x : α) : ∀ k : Nat, (List.replicate k [x]).flatten = List.replicate k x
  | 0 => rfl
  | k + 1 => by rw [List.replicate_succ, List.flatten_cons, flat_one x k, List.replicate_succ]; rfl
theorem rep1 {H : Hp} {Q : VK} {p : Addr} {x : V} {k : Int} (h : H p = some (.lst [x])) (k0 : 0 ≤ k) (k1 : k ≤ 1000) (q : ∀ a, H a = none → Q (.ref a) (upd H a (.lst (List.replicate k.toNat x)))) : rRep (.ref p) (.int k) H Q :=
  ⟨p, k, [x], rfl, rfl, h, by omega, by omega, by rw [sizeLine_eq]; simp; omega, fun a ha => by rw [flat_one]; exact q a ha⟩
theorem catLL {H : Hp} {Q : VK} {p b : Addr} {xs ys : List V} (h : H p = some (.lst xs)) (h2 : H b = some (.lst ys)) (hz : xs.length + ys.length ≤ 1000000) (q : ∀ a, H a = none → Q (.ref a) (upd H a (.lst (xs ++ ys)))) : rCat (.ref p) (.ref b) H Q :=
  ⟨p, b, xs, ys, rfl, rfl, h, h2, by rw [sizeLine_eq]; omega, q⟩
/-- all but what stands at d stays, tables stay tables -/
structure Sn (d : Addr) (H H' : Hp) : Prop where
  k : ∀ b u, b ≠ d → H b = some u → NT u → H' b = some u
  t : ∀ P, GxR.TabG H P → GxR.TabG H' P
theorem Sn.refl {d : Addr} {H : Hp} : Sn d H H := ⟨fun _ _ _ e _ => e, fun _ h => h⟩
theorem Sn.trans {d : Addr} {H H' H2 : Hp} (a : Sn d H H') (b : Sn d H' H2) : Sn d H H2 := ⟨fun x u m e n => b.k x u m (a.k x u m e n) n, fun P h => b.t P (a.t P h)⟩
theorem Sn.of {d : Addr} {H H' : Hp} (e : Sm H H') : Sn d H H' := ⟨fun b u _ h n => e.k b u h n, e.t⟩
theorem Sn.sx {d : Addr} {H H' : Hp} {ys : List V} (e : Sx d H H') (hd : H d = some (.lst ys)) : Sn d H H' := ⟨fun b u m h _ => e b u m h, fun P ⟨ps, h, t⟩ => ⟨ps, e P _ (fun z => by rw [z, hd] at h; cases h) h, t⟩⟩
theorem Sn.tup {K : PySem.W.Frag} {d : Addr} {H H' : Hp} {p : Addr} {xs ys : List V} (e : Sn d H H') (hd : H d = some (.lst ys)) (h : SqT K H p xs) : SqT K H' p xs := by
  rcases h with (h | ⟨o, h⟩) | h
  · exact .inl (.inl (e.k _ _ (fun z => by rw [z, hd] at h; cases h) h nt_tup))
  · exact .inl (.inr ⟨o, e.k _ _ (fun z => by rw [z, hd] at h; cases h) h nt_frz⟩)
  · exact .inr h
end WP
namespace WP
open PySem PySem.Spec PyProof.Rows L2
theorem bt8 {m : Int} (h : m.natAbs ≤ 10 ^ 18) : Bt m 8000 := Nat.lt_of_le_of_lt h (Nat.lt_of_lt_of_le (show 10 ^ 18 < 2 ^ 60 by decide) (Nat.pow_le_pow_right (by decide) (by decide)))
end WP
namespace WP
open PySem PySem.Spec PyProof.Rows L2
theorem par {i j : Nat} {ta : TA} {D : Ends} {σ : L2.St} {H : Hp} (h : ta σ H fun vs H1 => ∃ v w, vs = [v, w] ∧ D.nx ((σ.set i (some v)).set j (some w)) H1) : tPar i j ta D σ H := h
end WP
namespace WP
open PySem PySem.Spec PyProof.Rows L2
theorem ifSv {c : Prop} [Decidable c] {a b : List Nat} {i : Nat} {σ : L2.St} {H : Hp} {Q : VK} (hv : σ[i]? = some (some (.str (SX.S b)))) (q : Q (.str (SX.S (if c then a else b))) H) : if decide c = true then tC (.str (SX.S a)) σ H Q else tVar i σ H Q := by
  by_cases h : c
  · rw [if_pos (decide_eq_true h)]; rw [if_pos h] at q; exact WP.con q
  · rw [if_neg (by rw [decide_eq_false h]; exact Bool.false_ne_true)]; rw [if_neg h] at q; exact WP.var hv q
end WP
namespace WP
open PySem PySem.Spec PyProof.Rows L2
theorem notBl {a b : Bool} {H : Hp} {Q : VK} (q : Q (.bl (!decide (a = b))) H) : rNotB (.bl a) (.bl b) H Q := ⟨a, b, rfl, rfl, q⟩
end WP

namespace MG
/-! ### graphs -/
abbrev Gr := List (List Nat)
/-- the edges of v -/
def ed (g : Gr) (v : Nat) : List Nat := g.getD v []
/-- every edge leads to a vertex -/
def Ok (g : Gr) : Prop := ∀ v w, w ∈ ed g v → w < g.length
inductive R (g : Gr) : Nat → Nat → Prop
  | refl (v) : R g v v
  | step {u v w} : v ∈ ed g u → R g v w → R g u w
theorem R.one {g : Gr} {u v : Nat} (h : v ∈ ed g u) : R g u v := .step h (.refl v)
theorem R.trans {g : Gr} {u v w : Nat} (h : R g u v) (k : R g v w) : R g u w := by
  induction h with
  | refl => exact k
  | step e _ ih => exact .step e (ih k)
theorem R.snoc {g : Gr} {u v w : Nat} (h : R g u v) (k : w ∈ ed g v) : R g u w := h.trans (.one k)
/-- a way from u to v, along one edge or more, whose vertices but the last are in F -/
inductive Via (g : Gr) (F : List Nat) : Nat → Nat → Prop
  | one {u v} : u ∈ F → v ∈ ed g u → Via g F u v
  | step {u v w} : u ∈ F → v ∈ ed g u → Via g F v w → Via g F u w
theorem Via.r {g : Gr} {F : List Nat} {u v : Nat} (h : Via g F u v) : R g u v := by
  induction h with
  | one _ e => exact .one e
  | step _ e _ ih => exact .step e ih
theorem Via.last {g : Gr} {F : List Nat} {u v : Nat} (h : Via g F u v) : ∃ x, x ∈ F ∧ v ∈ ed g x := by
  induction h with
  | one m e => exact ⟨_, m, e⟩
  | step _ _ _ ih => exact ih
theorem Via.split {g : Gr} {F : List Nat} {x u v : Nat} (h : Via g (F ++ [x]) u v) : Via g F u v ∨ u = x ∨ Via g F u x := by
  induction h with
  | one m e =>
    rcases List.mem_append.mp m with m | m
    · exact .inl (.one m e)
    · exact .inr (.inl (List.mem_singleton.mp m))
  | @step a b c m e _ ih =>
    rcases List.mem_append.mp m with m1 | m1
    · rcases ih with h | h | h
      · exact .inl (.step m1 e h)
      · rw [h] at e; exact .inr (.inr (.one m1 e))
      · exact .inr (.inr (.step m1 e h))
    · exact .inr (.inl (List.mem_singleton.mp m1))
theorem Via.mono {g : Gr} {F F' : List Nat} {u v : Nat} (k : ∀ x ∈ F, x ∈ F') (h : Via g F u v) : Via g F' u v := by
  induction h with
  | one m e => exact .one (k _ m) e
  | step m e _ ih => exact .step (k _ m) e ih
/-- a finishing order -/
structure Fo (g : Gr) (o : List Nat) : Prop where
  nd : o.Nodup
  all : ∀ v, v ∈ o ↔ v < g.length
  d : ∀ i s, o[i]? = some s → ∀ u, Via g (o.take i) u s → R g s u
/-- the state of the search: finished, on the way (the last one first), how many edges were followed -/
structure Dfs (g : Gr) (o p : List Nat) (seen : List Bool) (fl : List Nat) : Prop where
  sl : seen.length = g.length
  fll : fl.length = g.length
  nd : (o ++ p).Nodup
  lt : ∀ v ∈ o ++ p, v < g.length
  sn : ∀ v, seen.getD v false = true ↔ v ∈ o ++ p
  fle : ∀ v, fl.getD v 0 ≤ (ed g v).length
  fs : ∀ v, ∀ w ∈ (ed g v).take (fl.getD v 0), w ∈ o ++ p
  fo : ∀ v ∈ o, fl.getD v 0 = (ed g v).length
  ch : ∀ i a b : Nat, p[i + 1]? = some a → p[i]? = some b → R g a b
  j3 : ∀ i s, o[i]? = some s → ∀ u, Via g (o.take i) u s → R g s u
  j4 : ∀ x ∈ p, ∀ u, Via g o u x → R g x u
theorem ed_lt {g : Gr} {v w : Nat} (h : w ∈ ed g v) : v < g.length := by
  unfold ed at h
  rw [List.getD_eq_getElem?_getD] at h
  rcases Nat.lt_or_ge v g.length with k | k
  · exact k
  · rw [List.getElem?_eq_none k] at h; cases h
theorem getD_set {α : Type} (l : List α) (i j : Nat) (a d : α) (h : i < l.length) : (l.set i a).getD j d = if i = j then a else l.getD j d := by
  rw [List.getD_eq_getElem?_getD, List.getElem?_set, List.getD_eq_getElem?_getD]
  by_cases e : i = j
  · subst e; rw [if_pos rfl, if_pos rfl, if_pos h]; rfl
  · rw [if_neg e, if_neg e]
theorem rep_getD {α : Type} (n i : Nat) (a : α) : (List.replicate n a).getD i a = a := by
  rw [List.getD_eq_getElem?_getD, List.getElem?_replicate]
  split <;> rfl
theorem Dfs.init (g : Gr) : Dfs g [] [] (List.replicate g.length false) (List.replicate g.length 0) where
  sl := List.length_replicate
  fll := List.length_replicate
  nd := List.nodup_nil
  lt := fun v h => by cases h
  sn := fun v => by rw [rep_getD]; exact ⟨fun z => (by cases z), fun z => (by cases z)⟩
  fle := fun v => by rw [rep_getD]; exact Nat.zero_le _
  fs := fun v w h => by rw [rep_getD] at h; cases h
  fo := fun v h => by cases h
  ch := fun i a b h => by simp at h
  j3 := fun i s h => by simp at h
  j4 := fun x h => by cases h
/-- a vertex is met for the first time -/
theorem Dfs.push {g : Gr} {o p : List Nat} {seen : List Bool} {fl : List Nat} (D : Dfs g o p seen fl) {v : Nat} (hv : v < g.length) (hs : seen.getD v false = false) (hp : ∀ b, p[0]? = some b → R g b v) :
    Dfs g o (v :: p) (seen.set v true) fl where
  sl := by rw [List.length_set]; exact D.sl
  fll := D.fll
  nd := by
    have nv : v ∉ o ++ p := fun z => by rw [(D.sn v).mpr z] at hs; cases hs
    have := D.nd
    rw [List.nodup_append] at this ⊢
    obtain ⟨n1, n2, n3⟩ := this
    rw [List.mem_append] at nv
    refine ⟨n1, List.nodup_cons.mpr ⟨fun z => nv (.inr z), n2⟩, fun a ha b hb => ?_⟩
    rcases List.mem_cons.mp hb with e | e
    · subst e; exact fun z => nv (.inl (z ▸ ha))
    · exact n3 a ha b e
  lt := fun x hx => by
    rcases List.mem_append.mp hx with e | e
    · exact D.lt x (List.mem_append.mpr (.inl e))
    · rcases List.mem_cons.mp e with e | e
      · subst e; exact hv
      · exact D.lt x (List.mem_append.mpr (.inr e))
  sn := fun x => by
    rw [getD_set _ _ _ _ _ (by rw [D.sl]; exact hv)]
    by_cases e : v = x
    · subst e; simp
    · rw [if_neg e, D.sn x, List.mem_append, List.mem_append, List.mem_cons]
      exact ⟨fun h => h.imp id .inr, fun h => h.imp id fun h => h.resolve_left fun z => e z.symm⟩
  fle := D.fle
  fs := fun x w h => by
    rcases List.mem_append.mp (D.fs x w h) with e | e
    · exact List.mem_append.mpr (.inl e)
    · exact List.mem_append.mpr (.inr (.tail _ e))
  fo := D.fo
  ch := fun i a b h1 h2 => by
    cases i with
    | zero =>
      have h2 : v = b := Option.some.inj h2
      subst h2
      exact hp a (by simpa using h1)
    | succ i => exact D.ch i a b (by simpa using h1) (by simpa using h2)
  j3 := D.j3
  j4 := fun x hx u hu => by
    rcases List.mem_cons.mp hx with e | e
    · subst e
      obtain ⟨y, hy, he⟩ := hu.last
      have : x ∈ o ++ p := D.fs y x (by rw [D.fo y hy, List.take_length]; exact he)
      rw [(D.sn x).mpr this] at hs
      cases hs
    · exact D.j4 x e u hu
/-- one more edge is followed -/
theorem Dfs.follow {g : Gr} {o p : List Nat} {seen : List Bool} {fl : List Nat} {v w : Nat} (D : Dfs g o p seen fl) (hv : v ∈ p) (hw : (ed g v)[fl.getD v 0]? = some w) (hs : w ∈ o ++ p) :
    Dfs g o p seen (fl.set v (fl.getD v 0 + 1)) where
  sl := D.sl
  fll := by rw [List.length_set]; exact D.fll
  nd := D.nd
  lt := D.lt
  sn := D.sn
  fle := fun x => by
    have hv' := D.lt v (List.mem_append.mpr (.inr hv))
    rw [getD_set _ _ _ _ _ (by rw [D.fll]; exact hv')]
    split
    · rename_i e; subst e; exact (List.getElem?_eq_some_iff.mp hw).1
    · exact D.fle x
  fs := fun x y h => by
    have hv' := D.lt v (List.mem_append.mpr (.inr hv))
    rw [getD_set _ _ _ _ _ (by rw [D.fll]; exact hv')] at h
    by_cases e : v = x
    · subst e
      rw [if_pos rfl, List.take_succ, hw] at h
      rcases List.mem_append.mp h with h | h
      · exact D.fs v y h
      · have : y = w := by simpa using h
        subst this; exact hs
    · rw [if_neg e] at h; exact D.fs x y h
  fo := fun x hx => by
    have hv' := D.lt v (List.mem_append.mpr (.inr hv))
    rw [getD_set _ _ _ _ _ (by rw [D.fll]; exact hv')]
    have ne : v ≠ x := fun z => by
      subst z
      exact (List.nodup_append.mp D.nd).2.2 v hx v hv rfl
    rw [if_neg ne]; exact D.fo x hx
  ch := D.ch
  j3 := D.j3
  j4 := D.j4
theorem Dfs.chain {g : Gr} {o p : List Nat} {seen : List Bool} {fl : List Nat} (D : Dfs g o p seen fl) : ∀ i a b : Nat, p[i]? = some a → p[0]? = some b → R g a b
  | 0, a, b, h1, h2 => by rw [h1] at h2; cases h2; exact .refl _
  | i + 1, a, b, h1, h2 => by
    obtain ⟨c, hc⟩ : ∃ c, p[i]? = some c := by
      have := (List.getElem?_eq_some_iff.mp h1).1
      exact ⟨p[i], List.getElem?_eq_getElem (by omega)⟩
    exact (D.ch i a c h1 hc).trans (D.chain i c b hc h2)
/-- the last vertex of the way is finished -/
theorem Dfs.finish {g : Gr} {o p : List Nat} {seen : List Bool} {fl : List Nat} {v : Nat} (D : Dfs g o (v :: p) seen fl) (hf : fl.getD v 0 = (ed g v).length) : Dfs g (o ++ [v]) p seen fl where
  sl := D.sl
  fll := D.fll
  nd := by rw [List.append_assoc]; exact D.nd
  lt := fun x h => D.lt x (by rw [List.append_assoc] at h; exact h)
  sn := fun x => by rw [List.append_assoc]; exact D.sn x
  fle := D.fle
  fs := fun x w h => by rw [List.append_assoc]; exact D.fs x w h
  fo := fun x h => by
    rcases List.mem_append.mp h with e | e
    · exact D.fo x e
    · rw [List.mem_singleton.mp e]; exact hf
  ch := fun i a b h1 h2 => D.ch (i + 1) a b (by simpa using h1) (by simpa using h2)
  j3 := fun i s h u k => by
    rcases Nat.lt_or_ge i o.length with hi | hi
    · rw [List.getElem?_append_left hi] at h
      rw [List.take_append_of_le_length (by omega)] at k
      exact D.j3 i s h u k
    · rw [List.getElem?_append_right hi] at h
      have hi0 : i - o.length = 0 := by
        have := (List.getElem?_eq_some_iff.mp h).1
        simp at this
        omega
      rw [hi0] at h
      have e : v = s := Option.some.inj h
      subst e
      have hi' : i = o.length := by omega
      subst hi'
      rw [List.take_left'  rfl] at k
      exact D.j4 v List.mem_cons_self u k
  j4 := fun x hx u hu => by
    have hxv : R g x v := by
      obtain ⟨i, hi, he⟩ := List.getElem_of_mem hx
      exact D.chain (i + 1) x v (by rw [List.getElem?_cons_succ, List.getElem?_eq_getElem hi, he]) rfl
    rcases hu.split with h | h | h
    · exact D.j4 x (.tail _ hx) u h
    · subst h; exact hxv
    · exact hxv.trans (D.j4 v List.mem_cons_self u h)
theorem Dfs.fo' {g : Gr} {o : List Nat} {seen : List Bool} {fl : List Nat} (D : Dfs g o [] seen fl) (h : ∀ v < g.length, seen.getD v false = true) : Fo g o where
  nd := by have := D.nd; rw [List.append_nil] at this; exact this
  all := fun v => by
    have := D.sn v
    rw [List.append_nil] at this
    exact ⟨fun z => D.lt v (by rw [List.append_nil]; exact z), fun z => this.mp (h v z)⟩
  d := D.j3
/-- no way back -/
def Acyc (g : Gr) : Prop := ∀ v w, w ∈ ed g v → ¬ R g w v
theorem Fo.before {g : Gr} {o : List Nat} (F : Fo g o) (ok : Ok g) (ac : Acyc g) {i v w : Nat} (h : o[i]? = some v) (hw : w ∈ ed g v) : w ∈ o.take i := by
  have hwl := ok v w hw
  obtain ⟨j, hj, he⟩ := List.getElem_of_mem ((F.all w).mpr hwl)
  have hj' : o[j]? = some w := by rw [List.getElem?_eq_getElem hj, he]
  rcases Nat.lt_or_ge j i with k | k
  · exact List.mem_of_getElem? (i := j) (by rw [List.getElem?_take, if_pos k]; exact hj')
  · rcases Nat.lt_or_eq_of_le k with k | k
    · have hv : v ∈ o.take j := List.mem_of_getElem? (i := i) (by rw [List.getElem?_take, if_pos k]; exact h)
      exact absurd (F.d j w hj' v (.one hv hw)) (ac v w hw)
    · subst k
      rw [h] at hj'
      cases hj'
      exact absurd (.refl v) (ac v v hw)
theorem nodup_sub : ∀ {l m : List Nat}, l.Nodup → (∀ x ∈ l, x ∈ m) → l.length ≤ m.length
  | [], m, _, _ => Nat.zero_le _
  | a :: l, m, h, k => by
    have hn := List.nodup_cons.mp h
    have ha := k a List.mem_cons_self
    have := nodup_sub (l := l) (m := m.erase a) hn.2 fun x hx => (List.mem_erase_of_ne (fun z : x = a => hn.1 (by rw [← z]; exact hx))).mpr (k x (.tail _ hx))
    rw [List.length_erase_of_mem ha] at this
    have := List.length_pos_of_mem ha
    rw [List.length_cons]
    omega
theorem nodup_len : ∀ {n : Nat} {l : List Nat}, l.Nodup → (∀ v ∈ l, v < n) → l.length ≤ n
  | 0, l, h, k => by
    cases l with
    | nil => exact Nat.le_refl _
    | cons a r => exact absurd (k a List.mem_cons_self) (Nat.not_lt_zero _)
  | n + 1, l, h, k => by
    by_cases m : n ∈ l
    · have := nodup_len (n := n) (h.erase n) fun v hv => by
        have := (List.Nodup.mem_erase_iff h).mp hv
        have := k v this.2
        omega
      rw [List.length_erase_of_mem m] at this
      omega
    · have := nodup_len (n := n) h fun v hv => by
        have := k v hv
        have : v ≠ n := fun z => m (z ▸ hv)
        omega
      omega
/-- m is the greatest of ns, or 0 if there is none -/
def IsMx (ns : List Int) (m : Int) : Prop := (ns = [] ∧ m = 0) ∨ (m ∈ ns ∧ ∀ y ∈ ns, y ≤ m)
/-- ranks of the vertices in S -/
def Rk (g : Gr) (S : List Nat) (f : Nat → Int) : Prop := ∀ v ∈ S, 0 ≤ f v ∧ (∀ w ∈ ed g v, w ∈ S) ∧ IsMx ((ed g v).map fun w => f w + 1) (f v)
theorem Rk.nil {g : Gr} {f : Nat → Int} : Rk g [] f := fun v h => by cases h
theorem Rk.snoc {g : Gr} {S : List Nat} {f : Nat → Int} {v : Nat} {m : Int} (k : Rk g S f) (nv : v ∉ S) (hs : ∀ w ∈ ed g v, w ∈ S) (hm : IsMx ((ed g v).map fun w => f w + 1) m) :
    Rk g (S ++ [v]) (fun x => if x = v then m else f x) := by
  have e : ∀ w ∈ S, (if w = v then m else f w) = f w := fun w hw => if_neg fun z : w = v => nv (by rw [← z]; exact hw)
  intro x hx
  rcases List.mem_append.mp hx with h | h
  · obtain ⟨k0, k1, k2⟩ := k x h
    dsimp only
    rw [e x h]
    refine ⟨k0, fun w hw => List.mem_append.mpr (.inl (k1 w hw)), ?_⟩
    rw [show ((ed g x).map fun w => (if w = v then m else f w) + 1) = (ed g x).map fun w => f w + 1 from List.map_congr_left fun w hw => by rw [e w (k1 w hw)]]
    exact k2
  · have h := List.mem_singleton.mp h
    subst h
    dsimp only
    rw [if_pos rfl]
    refine ⟨?_, fun w hw => List.mem_append.mpr (.inl (hs w hw)), ?_⟩
    · rcases hm with ⟨_, h⟩ | ⟨h, _⟩
      · omega
      · obtain ⟨w, hw, h⟩ := List.mem_map.mp h
        have := (k w (hs w hw)).1
        omega
    · rw [show ((ed g x).map fun w => (if w = x then m else f w) + 1) = (ed g x).map fun w => f w + 1 from List.map_congr_left fun w hw => by rw [e w (hs w hw)]]
      exact hm
theorem Rk.lt {g : Gr} {S : List Nat} {f : Nat → Int} (k : Rk g S f) {v w : Nat} (hv : v ∈ S) (hw : w ∈ ed g v) : f w < f v := by
  obtain ⟨_, _, h⟩ := k v hv
  rcases h with ⟨h, _⟩ | ⟨_, h⟩
  · have : f w + 1 ∈ (ed g v).map fun w => f w + 1 := List.mem_map.mpr ⟨w, hw, rfl⟩
    rw [h] at this; cases this
  · have := h (f w + 1) (List.mem_map.mpr ⟨w, hw, rfl⟩)
    omega
/-- the law's own greatest number -/
theorem Rk.law {g : Gr} {S : List Nat} {f : Nat → Int} (k : Rk g S f) {v : Nat} (hv : v ∈ S) {m : Int} (h1 : m ∈ 0 :: (ed g v).map fun w => 1 + f w) (h2 : ∀ y ∈ 0 :: (ed g v).map fun w => 1 + f w, y ≤ m) : f v = m := by
  obtain ⟨k0, k1, h⟩ := k v hv
  rw [show ((ed g v).map fun w => f w + 1) = (ed g v).map fun w => 1 + f w from List.map_congr_left fun w _ => Int.add_comm _ _] at h
  rcases h with ⟨h, e⟩ | ⟨h, e⟩
  · rw [h] at h1
    have := List.mem_singleton.mp h1
    omega
  · have a := h2 _ (.tail _ h)
    rcases List.mem_cons.mp h1 with z | z
    · omega
    · have := e m z
      omega
/-- what goes away: each vertex behind those that its edges lead to -/
structure Topo (g : Gr) (o : List Nat) : Prop where
  nd : o.Nodup
  lt : ∀ v ∈ o, v < g.length
  b : ∀ i v, o[i]? = some v → ∀ w ∈ ed g v, w ∈ o.take i
theorem Topo.nil {g : Gr} : Topo g [] := ⟨List.nodup_nil, fun v h => (by cases h), fun i v h => (by simp at h)⟩
theorem Topo.snoc {g : Gr} {o : List Nat} {v : Nat} (T : Topo g o) (hv : v < g.length) (nv : v ∉ o) (h : ∀ w ∈ ed g v, w ∈ o) : Topo g (o ++ [v]) := by
  refine ⟨?_, fun x hx => ?_, fun i x hx w hw => ?_⟩
  · rw [List.nodup_append]
    exact ⟨T.nd, by simp, fun a ha b hb => by rw [List.mem_singleton.mp hb]; exact fun z => nv (z ▸ ha)⟩
  · rcases List.mem_append.mp hx with e | e
    · exact T.lt x e
    · rw [List.mem_singleton.mp e]; exact hv
  · rcases Nat.lt_or_ge i o.length with hi | hi
    · rw [List.getElem?_append_left hi] at hx
      rw [List.take_append_of_le_length (by omega)]
      exact T.b i x hx w hw
    · rw [List.getElem?_append_right hi] at hx
      have hi0 : i - o.length = 0 := by
        have := (List.getElem?_eq_some_iff.mp hx).1
        simp at this
        omega
      rw [hi0] at hx
      have e : v = x := Option.some.inj hx
      subst e
      rw [show i = o.length by omega, List.take_left' rfl]
      exact h w hw
theorem Topo.len {g : Gr} {o : List Nat} (T : Topo g o) : o.length ≤ g.length := nodup_len T.nd T.lt
theorem nodup_all : ∀ {n : Nat} {l : List Nat}, l.Nodup → (∀ v ∈ l, v < n) → n ≤ l.length → ∀ v < n, v ∈ l := by
  intro n l h k le v hv
  by_cases m : v ∈ l
  · exact m
  · have : (v :: l).length ≤ n := nodup_len (List.nodup_cons.mpr ⟨m, h⟩) fun x hx => by
      rcases List.mem_cons.mp hx with e | e
      · rw [e]; exact hv
      · exact k x e
    rw [List.length_cons] at this
    omega
theorem Topo.acyc {g : Gr} {o : List Nat} (T : Topo g o) (h : g.length ≤ o.length) : Acyc g := by
  have all := nodup_all T.nd T.lt h
  have pos : ∀ u v : Nat, R g u v → ∀ i : Nat, o[i]? = some u → ∃ j : Nat, j ≤ i ∧ o[j]? = some v := by
    intro u v r
    induction r with
    | refl => exact fun i h => ⟨i, Nat.le_refl _, h⟩
    | step e _ ih =>
      intro i hi
      obtain ⟨j, hj, hje⟩ := List.getElem_of_mem (T.b i _ hi _ e)
      rw [List.length_take] at hj
      obtain ⟨q, h1, h2⟩ := ih j (by rw [List.getElem_take] at hje; rw [List.getElem?_eq_getElem (by omega), hje])
      exact ⟨q, by omega, h2⟩
  intro v w hw r
  obtain ⟨i, hi, he⟩ := List.getElem_of_mem (all v (ed_lt hw))
  have hie : o[i]? = some v := by rw [List.getElem?_eq_getElem hi, he]
  obtain ⟨j, hj, hje⟩ := List.getElem_of_mem (T.b i v hie w hw)
  rw [List.length_take] at hj
  rw [List.getElem_take] at hje
  obtain ⟨q, h1, h2⟩ := pos w v r j (by rw [List.getElem?_eq_getElem (by omega), hje])
  obtain ⟨hq, hqe⟩ := List.getElem?_eq_some_iff.mp h2
  have := (List.getElem_inj (h₀ := hi) (h₁ := hq) T.nd).mp (he.trans hqe.symm)
  omega
theorem mn : ∀ (n : Nat) (P : Nat → Prop) (f : Nat → Int), (∃ v, v < n ∧ P v) → ∃ v, v < n ∧ P v ∧ ∀ w, w < n → P w → f v ≤ f w
  | 0, P, f, ⟨v, h, _⟩ => absurd h (Nat.not_lt_zero _)
  | n + 1, P, f, h => by
    by_cases e : ∃ v, v < n ∧ P v
    · obtain ⟨v, h1, h2, h3⟩ := mn n P f e
      by_cases q : P n ∧ f n < f v
      · refine ⟨n, Nat.lt_succ_self _, q.1, fun w hw hp => ?_⟩
        rcases Nat.lt_succ_iff_lt_or_eq.mp hw with z | z
        · have := h3 w z hp; omega
        · rw [z]; exact Int.le_refl _
      · refine ⟨v, by omega, h2, fun w hw hp => ?_⟩
        rcases Nat.lt_succ_iff_lt_or_eq.mp hw with z | z
        · exact h3 w z hp
        · subst z
          by_cases z : f w < f v
          · exact absurd ⟨hp, z⟩ q
          · omega
    · obtain ⟨v, h1, h2⟩ := h
      have hv : v = n := by
        rcases Nat.lt_succ_iff_lt_or_eq.mp h1 with z | z
        · exact absurd ⟨v, z, h2⟩ e
        · exact z
      subst hv
      refine ⟨v, h1, h2, fun w hw hp => ?_⟩
      rcases Nat.lt_succ_iff_lt_or_eq.mp hw with z | z
      · exact absurd ⟨w, z, hp⟩ e
      · rw [z]; exact Int.le_refl _
/-- where nothing more goes away, all is gone if there are ranks -/
theorem Topo.done {g : Gr} {o : List Nat} (T : Topo g o) {f : Nat → Int} (k : Rk g (List.range g.length) f) (h : ∀ v < g.length, v ∉ o → ∃ w ∈ ed g v, w ∉ o) : g.length ≤ o.length := by
  by_cases e : ∃ v, v < g.length ∧ v ∉ o
  · obtain ⟨v, h1, h2, h3⟩ := mn g.length (· ∉ o) f e
    obtain ⟨w, hw, hwo⟩ := h v h1 h2
    have hwl := List.mem_range.mp ((k v (List.mem_range.mpr h1)).2.1 w hw)
    have := h3 w hwl hwo
    have := k.lt (List.mem_range.mpr h1) hw
    omega
  · have : (List.range g.length).length ≤ o.length := by
      have sub : ∀ x ∈ List.range g.length, x ∈ o := fun x hx => by
        by_cases m : x ∈ o
        · exact m
        · exact absurd ⟨x, List.mem_range.mp hx, m⟩ e
      exact nodup_sub List.nodup_range sub
    rw [List.length_range] at this
    exact this
def tot (g : Gr) : Nat := (g.map List.length).sum
theorem sum_le : ∀ (g : Gr) (fl : List Nat), fl.length = g.length → (∀ v, fl.getD v 0 ≤ (ed g v).length) → fl.sum ≤ tot g
  | [], [], _, _ => Nat.le_refl _
  | r :: g, a :: fl, h, k => by
    have h0 := k 0
    have ih := sum_le g fl (by simpa using h) fun v => by have := k (v + 1); simpa [ed] using this
    have h0 : a ≤ r.length := by simpa [ed] using h0
    unfold tot at *
    rw [List.sum_cons, List.map_cons, List.sum_cons]
    omega
theorem sum_set : ∀ (fl : List Nat) (v : Nat), v < fl.length → (fl.set v (fl.getD v 0 + 1)).sum = fl.sum + 1
  | [], v, h => absurd h (Nat.not_lt_zero _)
  | a :: fl, 0, _ => by show (a + 1) + fl.sum = a + fl.sum + 1; omega
  | a :: fl, v + 1, h => by
    have ih := sum_set fl v (by simpa using h)
    show a + (fl.set v (fl.getD v 0 + 1)).sum = a + fl.sum + 1
    omega
theorem Dfs.sumle {g : Gr} {o p : List Nat} {seen : List Bool} {fl : List Nat} (D : Dfs g o p seen fl) : fl.sum ≤ tot g := sum_le g fl D.fll D.fle
theorem Dfs.len {g : Gr} {o p : List Nat} {seen : List Bool} {fl : List Nat} (D : Dfs g o p seen fl) : o.length + p.length ≤ g.length := by
  rw [← List.length_append]; exact nodup_len D.nd D.lt
theorem set_self {l : List Bool} {i : Nat} (h : l.getD i false = true) : l.set i true = l := by
  refine List.ext_getElem? fun j => ?_
  rw [List.getElem?_set]
  by_cases e : i = j
  · subst e
    rw [if_pos rfl]
    rw [List.getD_eq_getElem?_getD] at h
    cases q : l[i]? with
    | none => rw [q] at h; cases h
    | some b =>
      rw [q] at h
      have hb : b = true := h
      rw [if_pos (List.getElem?_eq_some_iff.mp q).1, hb]
  · rw [if_neg e]
theorem getD_some {l : List Nat} {i : Nat} (h : i < l.length) : l[i]? = some (l.getD i 0) := by rw [List.getD_eq_getElem?_getD, List.getElem?_eq_getElem h]; rfl
end MG

namespace WP
open PySem PySem.Spec PyProof.Rows L2
/-! ### max(a list of ints, default=0) -/
theorem maxOf_ok : ∀ (ys : List Int) (y : Int), (y ≤ PySem.W.maxOf y ys ∧ ∀ z ∈ ys, z ≤ PySem.W.maxOf y ys) ∧ (PySem.W.maxOf y ys = y ∨ PySem.W.maxOf y ys ∈ ys)
  | [], y => ⟨⟨Int.le_refl _, fun _ h => by cases h⟩, .inl rfl⟩
  | x :: xs, y => by
    have ih := maxOf_ok xs (if y < x then x else y)
    have e : PySem.W.maxOf y (x :: xs) = PySem.W.maxOf (if y < x then x else y) xs := by
      show List.foldl _ _ _ = List.foldl _ _ _
      rw [List.foldl_cons]
      congr 1
      show (if decide (y < x) = true then x else y) = _
      by_cases h : y < x
      · rw [if_pos h, if_pos (decide_eq_true h)]
      · rw [if_neg h, if_neg (by simpa using h)]
    rw [e]
    obtain ⟨⟨h1, h2⟩, h3⟩ := ih
    have hx : x ≤ (if y < x then x else y) ∧ y ≤ (if y < x then x else y) := by split <;> omega
    refine ⟨⟨by omega, fun z hz => ?_⟩, ?_⟩
    · rcases List.mem_cons.mp hz with e | e
      · rw [e]; omega
      · exact h2 z e
    · rcases h3 with h3 | h3
      · by_cases h : y < x
        · rw [if_pos h] at h3 ⊢; exact .inr (by rw [h3]; exact List.mem_cons_self)
        · rw [if_neg h] at h3 ⊢; exact .inl h3
      · exact .inr (.tail _ h3)
def rMaxDef (K : PySem.W.Frag) : List V → List V → Hp → VK → Prop := fun vs zs H Q => ∃ (a : Addr) (ns : List Int), vs = [.ref a] ∧ zs = [.int 0] ∧ SqL K H a (ns.map V.int) ∧ ∀ m, MG.IsMx ns m → Q (.int m) H
theorem cr_maxDef {X : Cx} (hc : X.calm = true) (hu : X.A.units + 1 < cLine) : CallRK X (.builtin "max") [Str.ofString "default"] (rMaxDef X.K) := by
  intro pins s σ H vs zs us ws Q I r rz h
  obtain ⟨a, ns, rfl, rfl, hs, q⟩ := h
  obtain rfl := Vals.ref1 r
  obtain ⟨w1, rfl, e1⟩ := vals1 rz
  obtain ⟨t, rfl⟩ : ∃ t, w1 = Value.int 0 t := e1
  obtain ⟨its, rv, hl, hz⟩ := I.list hs
  have hA : PySem.W.HoldAll s.heap its.toArray.toList ns := by
    show ∃ as, ReadsAll s.heap its (ns.map PySem.W.Datum.toD) as
    have hi := rv.ints
    clear q rv hl hz hs r rz I
    induction hi with
    | nil => exact ⟨_, .nil⟩
    | cons _ _ _ ih =>
      obtain ⟨as, e⟩ := ih
      exact ⟨_, .cons (.int _ _) e⟩
  refine PySem.W.max_list_datum_default (α := Int) (I.ok.hd hc) hl.isList hA hu (fun e h' tk hk => ?_) (fun y ys i v h' tk e hv hh hk => ?_)
  · exact ⟨.int 0, H, I.kept hk, ⟨_, rfl⟩, q 0 (.inl ⟨e, rfl⟩)⟩
  · obtain ⟨bs, rd⟩ := hh
    cases rd
    obtain ⟨⟨h1, h2⟩, h3⟩ := maxOf_ok ys y
    refine ⟨.int (PySem.W.maxOf y ys), H, I.kept hk, ⟨_, rfl⟩, q _ (.inr ⟨?_, fun z hz => ?_⟩)⟩
    · rw [e]
      rcases h3 with h3 | h3
      · rw [h3]; exact List.mem_cons_self
      · exact .tail _ h3
    · rw [e] at hz
      rcases List.mem_cons.mp hz with z1 | z1
      · rw [z1]; exact h1
      · exact h2 z z1
theorem maxD {K : PySem.W.Frag} {H : Hp} {Q : VK} {p : Addr} {ns : List Int} (h : SqL K H p (ns.map V.int)) (q : ∀ m, MG.IsMx ns m → Q (.int m) H) : rMaxDef K [.ref p] [.int 0] H Q := ⟨p, ns, rfl, rfl, h, q⟩
theorem ckw {r : List V → List V → Hp → VK → Prop} {t tk : TA} {σ : L2.St} {H : Hp} {Q : VK} (h : t σ H fun vs H1 => tk σ H1 fun zs H2 => r vs zs H2 Q) : tCKw r t tk σ H Q := h
end WP

namespace D
open PySem PySem.Spec PyProof.Rows L2
/-- the graph g at p: a tuple of tuples -/
def GrAt (K : PySem.W.Frag) (H : Hp) (p : Addr) (g : MG.Gr) : Prop := ∃ ps : List Addr, SqT K H p (ps.map V.ref) ∧ ps.length = g.length ∧ ∀ (i : Nat) (a : Addr), ps[i]? = some a → SqT K H a (WP.iL (MG.ed g i))
structure GOk (g : MG.Gr) : Prop where
  ok : MG.Ok g
  n : g.length ≤ 1000
  m : ∀ v, (MG.ed g v).length ≤ 1000
theorem GrAt.same {K : PySem.W.Frag} {H H' : Hp} {p : Addr} {g : MG.Gr} (h : GrAt K H p g) (e : Same H H') : GrAt K H' p g := by
  obtain ⟨ps, h1, h2, h3⟩ := h
  exact ⟨ps, WP.sqt e h1, h2, fun i a ha => WP.sqt e (h3 i a ha)⟩
theorem GrAt.row {K : PySem.W.Frag} {H : Hp} {p : Addr} {g : MG.Gr} (h : GrAt K H p g) {v : Nat} (hv : v < g.length) : ∃ (a : Addr) (xs : List V), SqT K H p xs ∧ xs.length = g.length ∧ atI xs (v : Int) = some (.ref a) ∧ SqT K H a (WP.iL (MG.ed g v)) := by
  obtain ⟨ps, h1, h2, h3⟩ := h
  have e : ps[v]? = some ps[v] := List.getElem?_eq_getElem (by omega)
  exact ⟨ps[v], _, h1, by rw [List.length_map]; exact h2, atI_nat (by rw [List.getElem?_map, e]; rfl), h3 v _ e⟩
theorem GrAt.top {K : PySem.W.Frag} {H : Hp} {p : Addr} {g : MG.Gr} (h : GrAt K H p g) : ∃ xs, SqT K H p xs ∧ xs.length = g.length := by
  obtain ⟨ps, h1, h2, h3⟩ := h
  exact ⟨_, h1, by rw [List.length_map]; exact h2⟩

theorem ed_snoc {g : MG.Gr} {r : List Nat} {v : Nat} : MG.ed (g ++ [r]) v = if v < g.length then MG.ed g v else if v = g.length then r else [] := by
  unfold MG.ed
  rw [List.getD_eq_getElem?_getD, List.getD_eq_getElem?_getD]
  by_cases h : v < g.length
  · rw [if_pos h, List.getElem?_append_left h]
  · rw [if_neg h, List.getElem?_append_right (by omega)]
    by_cases e : v = g.length
    · rw [if_pos e, e, Nat.sub_self]; rfl
    · rw [if_neg e, List.getElem?_eq_none (by show 1 ≤ _; omega)]; rfl
end D

namespace MG
/-! ### circles -/
def Cyc (g : Gr) (v : Nat) : Prop := ∃ w, w ∈ ed g v ∧ R g w v
/-- along a way, all its vertices but the last in F -/
theorem R.via {g : Gr} {F : List Nat} {s : Nat} : ∀ {u : Nat}, R g u s → u ≠ s → (∀ x, R g u x → R g x s → x ≠ s → x ∈ F) → Via g F u s := by
  intro u h
  induction h with
  | refl => exact fun n => absurd rfl n
  | @step a b c e r ih =>
    intro n k
    have ha := k a (.refl a) (.step e r) n
    by_cases hb : b = c
    · subst hb; exact .one ha e
    · exact .step ha e (ih hb fun x h1 h2 h3 => k x (.step e h1) h2 h3)
/-- vertices gone through from behind: all that reach one of them are among them -/
structure Ko (g : Gr) (S F : List Nat) : Prop where
  lt : ∀ v ∈ S, v < g.length
  pr : ∀ u v, v ∈ ed g u → v ∈ S → u ∈ S
  f : ∀ v, v ∈ F ↔ v ∈ S ∧ Cyc g v
theorem Ko.nil {g : Gr} : Ko g [] [] := ⟨fun v h => (by cases h), fun u v _ h => (by cases h), fun v => ⟨fun h => (by cases h), fun h => (by cases h.1)⟩⟩
theorem Ko.reach {g : Gr} {S F : List Nat} (k : Ko g S F) {u v : Nat} (h : R g u v) (hv : v ∈ S) : u ∈ S := by
  induction h with
  | refl => exact hv
  | step e _ ih => exact k.pr _ _ e (ih hv)
/-- a party: the vertices q, at of them followed -/
structure Pa (g : Gr) (S q : List Nat) (s : Nat) (at' : Nat) : Prop where
  le : at' ≤ q.length
  ns : ∀ x ∈ q, x ∉ S
  lt : ∀ x ∈ q, x < g.length
  r : ∀ x ∈ q, R g x s
  hd : q[0]? = some s
  ne : ∀ i x : Nat, q[i + 1]? = some x → x ≠ s
  fo : ∀ i x, i < at' → q[i]? = some x → ∀ u, x ∈ ed g u → u ∈ S ∨ u ∈ q
theorem Pa.one {g : Gr} {S : List Nat} {s : Nat} (hs : s ∉ S) (hl : s < g.length) : Pa g S [s] s 0 where
  le := Nat.zero_le _
  ns := fun x h => by rw [List.mem_singleton.mp h]; exact hs
  lt := fun x h => by rw [List.mem_singleton.mp h]; exact hl
  r := fun x h => by rw [List.mem_singleton.mp h]; exact .refl s
  hd := rfl
  ne := fun i x h => by simp at h
  fo := fun i x h => absurd h (Nat.not_lt_zero _)
theorem Pa.next {g : Gr} {S q a : List Nat} {s k x : Nat} (P : Pa g S q s k) (hx : q[k]? = some x) (h1 : ∀ u ∈ a, x ∈ ed g u ∧ u ∉ S ∧ u < g.length ∧ u ∉ q) (h2 : ∀ u, x ∈ ed g u → u ∈ S ∨ u ∈ q ∨ u ∈ a) : Pa g S (q ++ a) s (k + 1) where
  le := by
    have := (List.getElem?_eq_some_iff.mp hx).1
    rw [List.length_append]; omega
  ns := fun y h => (List.mem_append.mp h).elim (P.ns y) fun h => (h1 y h).2.1
  lt := fun y h => (List.mem_append.mp h).elim (P.lt y) fun h => (h1 y h).2.2.1
  r := fun y h => (List.mem_append.mp h).elim (P.r y) fun h => .step (h1 y h).1 (P.r x (List.mem_of_getElem? hx))
  hd := by
    have := (List.getElem?_eq_some_iff.mp P.hd).1
    rw [List.getElem?_append_left this]; exact P.hd
  ne := fun i y h => by
    rcases Nat.lt_or_ge (i + 1) q.length with z | z
    · rw [List.getElem?_append_left z] at h; exact P.ne i y h
    · rw [List.getElem?_append_right z] at h
      exact fun e => (h1 y (List.mem_of_getElem? h)).2.2.2 (by rw [e]; exact List.mem_of_getElem? P.hd)
  fo := fun i y hi hy u hu => by
    have hk := (List.getElem?_eq_some_iff.mp hx).1
    rw [List.getElem?_append_left (by omega)] at hy
    rcases Nat.lt_succ_iff_lt_or_eq.mp hi with z | z
    · exact (P.fo i y z hy u hu).imp id fun h => List.mem_append.mpr (.inl h)
    · subst z
      rw [hx] at hy
      cases hy
      rcases h2 u hu with h | h | h
      · exact .inl h
      · exact .inr (List.mem_append.mpr (.inl h))
      · exact .inr (List.mem_append.mpr (.inr h))
theorem Pa.cl {g : Gr} {S F q : List Nat} {s : Nat} (K : Ko g S F) (P : Pa g S q s q.length) (x : Nat) (hx : x ∈ S ∨ x ∈ q) (u : Nat) (hu : x ∈ ed g u) : u ∈ S ∨ u ∈ q := by
  rcases hx with h | h
  · exact .inl (K.pr u x hu h)
  · obtain ⟨i, hi, he⟩ := List.getElem_of_mem h
    exact P.fo i x hi (by rw [List.getElem?_eq_getElem hi, he]) u hu
theorem Pa.all {g : Gr} {S F q : List Nat} {s : Nat} (K : Ko g S F) (P : Pa g S q s q.length) {u v : Nat} (hr : R g u v) (hv : v ∈ S ∨ v ∈ q) : u ∈ S ∨ u ∈ q := by
  induction hr with
  | refl => exact hv
  | step e _ ih => exact P.cl K _ (ih hv) _ e
theorem R.cut {g : Gr} {u v : Nat} (h : R g u v) (n : u ≠ v) : ∃ w, w ∈ ed g u ∧ R g w v := by
  cases h with
  | refl => exact absurd rfl n
  | step e r => exact ⟨_, e, r⟩
theorem Ko.step {g : Gr} {S F q o : List Nat} {s j : Nat} (K : Ko g S F) (P : Pa g S q s q.length) (hs : s ∉ S) (hl : s < g.length) (hF : Fo g o) (hj : o[j]? = some s) (hd : ∀ i x, j < i → o[i]? = some x → x ∈ S) :
    Ko g (S ++ q) (if 1 < q.length ∨ s ∈ ed g s then F ++ q else F) := by
  have hsq : s ∈ q := List.mem_of_getElem? P.hd
  have back : ∀ x ∈ q, R g s x := fun x hx => by
    by_cases e : x = s
    · rw [e]; exact .refl s
    · refine hF.d j s hj x ((P.r x hx).via e fun y h1 h2 h3 => ?_)
      rcases P.all K h2 (.inr hsq) with h | h
      · exact absurd (K.reach h1 h) (P.ns x hx)
      · obtain ⟨i, hi, he⟩ := List.getElem_of_mem ((hF.all y).mpr (P.lt y h))
        have hie : o[i]? = some y := by rw [List.getElem?_eq_getElem hi, he]
        rcases Nat.lt_or_ge i j with z | z
        · exact List.mem_of_getElem? (i := i) (by rw [List.getElem?_take, if_pos z]; exact hie)
        · rcases Nat.lt_or_eq_of_le z with z | z
          · exact absurd (hd i y z hie) (P.ns y h)
          · subst z
            rw [hj] at hie
            cases hie
            exact absurd rfl h3
  have cyc : (1 < q.length ∨ s ∈ ed g s) → ∀ x ∈ q, Cyc g x := fun c x hx => by
    by_cases e : x = s
    · subst e
      rcases c with c | c
      · have hy : q[1]? = some q[1] := List.getElem?_eq_getElem c
        have ne := P.ne 0 _ hy
        have hm := List.mem_of_getElem? hy
        obtain ⟨w, hw, hr⟩ := (back _ hm).cut (Ne.symm ne)
        exact ⟨w, hw, hr.trans (P.r _ hm)⟩
      · exact ⟨x, c, .refl x⟩
    · obtain ⟨w, hw, hr⟩ := (P.r x hx).cut e
      exact ⟨w, hw, hr.trans (back x hx)⟩
  refine ⟨fun v h => (List.mem_append.mp h).elim (K.lt v) (P.lt v), fun u v e h => List.mem_append.mpr (P.cl K v (List.mem_append.mp h) u e), fun v => ?_⟩
  by_cases c : 1 < q.length ∨ s ∈ ed g s
  · rw [if_pos c, List.mem_append, List.mem_append, K.f v]
    exact ⟨fun h => h.elim (fun h => ⟨.inl h.1, h.2⟩) fun h => ⟨.inr h, cyc c v h⟩, fun ⟨h1, h2⟩ => h1.imp (fun h => ⟨h, h2⟩) id⟩
  · rw [if_neg c, K.f v, List.mem_append]
    refine ⟨fun h => ⟨.inl h.1, h.2⟩, fun ⟨h1, h2⟩ => ⟨?_, h2⟩⟩
    rcases h1 with h | h
    · exact h
    · have hq : q.length = 1 := by
        have := List.length_pos_of_mem hsq
        omega
      obtain ⟨y, hy⟩ := List.length_eq_one_iff.mp hq
      rw [hy] at hsq h
      have e1 := List.mem_singleton.mp hsq
      have e2 := List.mem_singleton.mp h
      subst e1
      subst e2
      obtain ⟨w, hw, hr⟩ := h2
      rcases P.all K hr (.inr (by rw [hy]; exact List.mem_cons_self)) with h | h
      · exact K.pr _ _ hw h
      · rw [hy] at h
        have e3 := List.mem_singleton.mp h
        subst e3
        exact absurd (.inr hw) c
/-! ### ways of a length -/
inductive W (g : Gr) (s : Nat) : Nat → Nat → Prop
  | z : W g s 0 s
  | s {m x y} : W g s m x → y ∈ ed g x → W g s (m + 1) y
theorem W.r {g : Gr} {s m x : Nat} (h : W g s m x) : R g s x := by
  induction h with
  | z => exact .refl s
  | s _ e ih => exact ih.snoc e
theorem R.w {g : Gr} {s x y : Nat} (h : R g x y) : ∀ {m : Nat}, W g s m x → ∃ m', m ≤ m' ∧ W g s m' y := by
  induction h with
  | refl => exact fun h => ⟨_, Nat.le_refl _, h⟩
  | step e _ ih =>
    intro m h
    obtain ⟨m', h1, h2⟩ := ih (.s h e)
    exact ⟨m', by omega, h2⟩
theorem Cyc.w {g : Gr} {s : Nat} (h : Cyc g s) : ∃ m, W g s (m + 1) s := by
  obtain ⟨w, hw, hr⟩ := h
  obtain ⟨m, h1, h2⟩ := hr.w (.s .z hw)
  exact ⟨m - 1, by rw [show m - 1 + 1 = m by omega]; exact h2⟩
theorem W.cyc {g : Gr} {s m : Nat} (h : W g s (m + 1) s) : Cyc g s := by
  generalize e : m + 1 = k at h
  have : ∀ k y, W g s k y → 0 < k → ∃ w, w ∈ ed g s ∧ R g w y := fun k y h => by
    induction h with
    | z => exact fun z => absurd z (Nat.lt_irrefl _)
    | @s m x y hw he ih =>
      intro _
      by_cases hm : 0 < m
      · obtain ⟨w, h1, h2⟩ := ih hm
        exact ⟨w, h1, h2.snoc he⟩
      · have : m = 0 := by omega
        subst this
        cases hw
        exact ⟨y, he, .refl y⟩
  exact this k s h (by omega)
/-- a search by distance from s: the row q, k of it followed; d tells how far, f from where -/
structure Bf (g : Gr) (s : Nat) (q : List Nat) (k : Nat) (d f : Nat → Nat) : Prop where
  nd : q.Nodup
  lt : ∀ x ∈ q, x < g.length
  hd : q[0]? = some s
  w : ∀ x ∈ q, W g s (d x) x
  mn : ∀ x ∈ q, ∀ m, W g s m x → d x ≤ m
  so : ∀ i j x y : Nat, i ≤ j → q[i]? = some x → q[j]? = some y → d x ≤ d y
  up : ∀ i x y : Nat, q[i]? = some x → q[k]? = some y → d x ≤ d y + 1
  fo : ∀ i x, i < k → q[i]? = some x → ∀ y ∈ ed g x, y ∈ q
  no : ∀ i x, i < k → q[i]? = some x → s ∉ ed g x
  fr : ∀ x ∈ q, x ≠ s → f x ∈ q ∧ x ∈ ed g (f x) ∧ d x = d (f x) + 1
  ix : ∀ i x : Nat, q[i]? = some x → d x ≤ i
theorem Bf.init {g : Gr} {s : Nat} (hl : s < g.length) (f : Nat → Nat) : Bf g s [s] 0 (fun _ => 0) f where
  nd := List.nodup_cons.mpr ⟨by simp, List.nodup_nil⟩
  lt := fun x h => by rw [List.mem_singleton.mp h]; exact hl
  hd := rfl
  w := fun x h => by rw [List.mem_singleton.mp h]; exact .z
  mn := fun _ _ _ _ => Nat.zero_le _
  so := fun _ _ _ _ _ _ _ => Nat.le_refl _
  up := fun _ _ _ _ _ => Nat.zero_le _
  fo := fun i x h => absurd h (Nat.not_lt_zero _)
  no := fun i x h => absurd h (Nat.not_lt_zero _)
  fr := fun x h n => absurd (List.mem_singleton.mp h) n
  ix := fun _ _ _ => Nat.zero_le _
/-- a way that leaves the row leaves it at what is not yet followed -/
theorem Bf.out {g : Gr} {s k : Nat} {q : List Nat} {d f : Nat → Nat} (B : Bf g s q k d f) {m y : Nat} (h : W g s m y) (n : y ∉ q) : ∃ i z, k ≤ i ∧ q[i]? = some z ∧ d z < m := by
  induction h with
  | z => exact absurd (List.mem_of_getElem? B.hd) n
  | @s m x y hw he ih =>
    by_cases hx : x ∈ q
    · obtain ⟨i, hi, hie⟩ := List.getElem_of_mem hx
      have hq : q[i]? = some x := by rw [List.getElem?_eq_getElem hi, hie]
      refine ⟨i, x, ?_, hq, Nat.lt_succ_of_le (B.mn x hx m hw)⟩
      rcases Nat.lt_or_ge i k with z | z
      · exact absurd (B.fo i x z hq y he) n
      · exact z
    · obtain ⟨i, z, h1, h2, h3⟩ := ih hx
      exact ⟨i, z, h1, h2, by omega⟩
theorem Bf.far {g : Gr} {s k : Nat} {q : List Nat} {d f : Nat → Nat} (B : Bf g s q k d f) {m y x : Nat} (h : W g s m y) (n : y ∉ q) (hx : q[k]? = some x) : d x < m := by
  obtain ⟨i, z, h1, h2, h3⟩ := B.out h n
  have := B.so k i x z h1 hx h2
  omega
/-- while no edge leads back, something is left to follow -/
theorem Bf.left {g : Gr} {s k : Nat} {q : List Nat} {d f : Nat → Nat} (B : Bf g s q k d f) (hc : Cyc g s) : k < q.length := by
  rcases Nat.lt_or_ge k q.length with h | h
  · exact h
  · obtain ⟨m, hm⟩ := hc.w
    have : ∀ m y, W g s m y → y ∈ q := fun m y h' => by
      by_cases e : y ∈ q
      · exact e
      · obtain ⟨i, z, h1, h2, _⟩ := B.out h' e
        have := (List.getElem?_eq_some_iff.mp h2).1
        omega
    cases hm with
    | @s _ x _ hw he =>
      obtain ⟨i, hi, hie⟩ := List.getElem_of_mem (this _ _ hw)
      exact absurd he (B.no i x (by omega) (by rw [List.getElem?_eq_getElem hi, hie]))
theorem Bf.next {g : Gr} {s k x : Nat} {q a : List Nat} {d f : Nat → Nat} (B : Bf g s q k d f) (ok : Ok g) (hx : q[k]? = some x) (hs : s ∉ ed g x) (an : a.Nodup) (ha : ∀ y, y ∈ a ↔ y ∈ ed g x ∧ y ∉ q) :
    Bf g s (q ++ a) (k + 1) (fun y => if y ∈ a then d x + 1 else d y) (fun y => if y ∈ a then x else f y) := by
  have hk := (List.getElem?_eq_some_iff.mp hx).1
  have hxq := List.mem_of_getElem? hx
  have na : ∀ y ∈ q, y ∉ a := fun y h z => ((ha y).mp z).2 h
  have dq : ∀ y ∈ q, (if y ∈ a then d x + 1 else d y) = d y := fun y h => if_neg (na y h)
  have ge : ∀ (i : Nat) (y : Nat), (q ++ a)[i]? = some y → (i < q.length ∧ q[i]? = some y) ∨ (q.length ≤ i ∧ y ∈ a) := fun i y h => by
    rcases Nat.lt_or_ge i q.length with z | z
    · rw [List.getElem?_append_left z] at h; exact .inl ⟨z, h⟩
    · rw [List.getElem?_append_right z] at h; exact .inr ⟨z, List.mem_of_getElem? h⟩
  have dle : ∀ i y, q[i]? = some y → d y ≤ d x + 1 := fun i y h => B.up i y x h hx
  refine ⟨?_, ?_, ?_, ?_, ?_, ?_, ?_, ?_, ?_, ?_, ?_⟩
  · rw [List.nodup_append]
    exact ⟨B.nd, an, fun y h z hz e => na y h (e ▸ hz)⟩
  · intro y h
    rcases List.mem_append.mp h with h | h
    · exact B.lt y h
    · exact ok x y ((ha y).mp h).1
  · rw [List.getElem?_append_left (by omega)]; exact B.hd
  · intro y h
    (try dsimp only)
    rcases List.mem_append.mp h with h | h
    · rw [dq y h]; exact B.w y h
    · rw [if_pos h]; exact .s (B.w x hxq) ((ha y).mp h).1
  · intro y h m hm
    (try dsimp only)
    rcases List.mem_append.mp h with h | h
    · rw [dq y h]; exact B.mn y h m hm
    · rw [if_pos h]; exact B.far hm ((ha y).mp h).2 hx
  · intro i j y z hij h1 h2
    (try dsimp only)
    rcases ge i y h1 with ⟨a1, b1⟩ | ⟨a1, b1⟩
    · rcases ge j z h2 with ⟨a2, b2⟩ | ⟨a2, b2⟩
      · rw [dq y (List.mem_of_getElem? b1), dq z (List.mem_of_getElem? b2)]; exact B.so i j y z hij b1 b2
      · rw [dq y (List.mem_of_getElem? b1), if_pos b2]; exact dle i y b1
    · rcases ge j z h2 with ⟨a2, b2⟩ | ⟨a2, b2⟩
      · omega
      · rw [if_pos b1, if_pos b2]; exact Nat.le_refl _
  · intro i y z h1 h2
    (try dsimp only)
    have hz : d x ≤ (if z ∈ a then d x + 1 else d z) := by
      rcases ge (k + 1) z h2 with ⟨a2, b2⟩ | ⟨a2, b2⟩
      · rw [dq z (List.mem_of_getElem? b2)]; exact B.so k (k + 1) x z (Nat.le_succ _) hx b2
      · rw [if_pos b2]; exact Nat.le_succ _
    rcases ge i y h1 with ⟨a1, b1⟩ | ⟨a1, b1⟩
    · rw [dq y (List.mem_of_getElem? b1)]
      have := dle i y b1
      omega
    · rw [if_pos b1]; omega
  · intro i y hi h z hz
    rcases ge i y h with ⟨a1, b1⟩ | ⟨a1, b1⟩
    · rcases Nat.lt_succ_iff_lt_or_eq.mp hi with e | e
      · exact List.mem_append.mpr (.inl (B.fo i y e b1 z hz))
      · subst e
        rw [hx] at b1
        cases b1
        by_cases q1 : z ∈ q
        · exact List.mem_append.mpr (.inl q1)
        · exact List.mem_append.mpr (.inr ((ha z).mpr ⟨hz, q1⟩))
    · omega
  · intro i y hi h
    rcases ge i y h with ⟨a1, b1⟩ | ⟨a1, b1⟩
    · rcases Nat.lt_succ_iff_lt_or_eq.mp hi with e | e
      · exact B.no i y e b1
      · subst e
        rw [hx] at b1
        cases b1
        exact hs
    · omega
  · intro y h n
    (try dsimp only)
    rcases List.mem_append.mp h with h | h
    · obtain ⟨h1, h2, h3⟩ := B.fr y h n
      rw [if_neg (na y h), if_neg (na y h), if_neg (na _ h1)]
      exact ⟨List.mem_append.mpr (.inl h1), h2, h3⟩
    · rw [if_pos h, if_pos h, if_neg (na x hxq)]
      exact ⟨List.mem_append.mpr (.inl hxq), ((ha y).mp h).1, rfl⟩
  · intro i y h
    (try dsimp only)
    rcases ge i y h with ⟨a1, b1⟩ | ⟨a1, b1⟩
    · rw [dq y (List.mem_of_getElem? b1)]; exact B.ix i y b1
    · rw [if_pos b1]
      have := B.ix k x hx
      omega
/-- a shortest circle from s: its vertices in order -/
structure Ci (g : Gr) (s : Nat) (c : List Nat) : Prop where
  hd : c[0]? = some s
  lt : ∀ x ∈ c, x < g.length
  st : ∀ i x y : Nat, c[i]? = some x → c[i + 1]? = some y → y ∈ ed g x
  cl : ∀ x, c[c.length - 1]? = some x → s ∈ ed g x
  mn : ∀ m, W g s (m + 1) s → c.length ≤ m + 1
/-- the way back, from x on; the last one met stands first in w -/
structure Wb (g : Gr) (s : Nat) (q : List Nat) (x : Nat) (d : Nat → Nat) (w : List Nat) : Prop where
  q : ∀ y ∈ w, y ∈ q
  la : w[w.length - 1]? = some x
  st : ∀ i a b : Nat, w[i]? = some a → w[i + 1]? = some b → b ∈ ed g a
  ln : ∀ a, w[0]? = some a → w.length + d a = d x + 1
theorem Wb.one {g : Gr} {s x : Nat} {q : List Nat} {d : Nat → Nat} (h : x ∈ q) : Wb g s q x d [x] where
  q := fun y hy => by rw [List.mem_singleton.mp hy]; exact h
  la := rfl
  st := fun i a b _ h => by simp at h
  ln := fun a h => by cases h; show 1 + _ = _; omega
theorem Wb.cons {g : Gr} {s x k a : Nat} {q w : List Nat} {d f : Nat → Nat} (B : Bf g s q k d f) (h : Wb g s q x d (a :: w)) (n : a ≠ s) : Wb g s q x d (f a :: a :: w) := by
  obtain ⟨h1, h2, h3⟩ := B.fr a (h.q a List.mem_cons_self) n
  refine ⟨fun y hy => ?_, ?_, fun i b c hb hc => ?_, fun b hb => ?_⟩
  · rcases List.mem_cons.mp hy with e | e
    · rw [e]; exact h1
    · exact h.q y e
  · have := h.la
    rw [List.length_cons] at this ⊢
    rw [List.length_cons, Nat.add_sub_cancel] at *
    exact this
  · cases i with
    | zero => cases hb; cases hc; exact h2
    | succ i => exact h.st i b c (by simpa using hb) (by simpa using hc)
  · cases hb
    have := h.ln a rfl
    simp only [List.length_cons] at *
    omega
theorem Wb.ci {g : Gr} {s x k : Nat} {q w : List Nat} {d f : Nat → Nat} (B : Bf g s q k d f) (h : Wb g s q x d (s :: w)) (hx : q[k]? = some x) (hs : s ∈ ed g x) : Ci g s (s :: w) where
  hd := rfl
  lt := fun y hy => B.lt y (h.q y hy)
  st := h.st
  cl := fun y hy => by
    rw [h.la] at hy
    cases hy
    exact hs
  mn := fun m hm => by
    have hl := h.ln s rfl
    have d0 : d s = 0 := by
      have := B.mn s (List.mem_of_getElem? B.hd) 0 .z
      omega
    have : d x ≤ m := by
      cases hm with
      | @s _ y _ hw he =>
        by_cases e : y ∈ q
        · obtain ⟨i, hi, hie⟩ := List.getElem_of_mem e
          have hq : q[i]? = some y := by rw [List.getElem?_eq_getElem hi, hie]
          have := B.mn y e m hw
          rcases Nat.lt_or_ge i k with z | z
          · exact absurd he (B.no i y z hq)
          · have := B.so k i x y z hx hq
            omega
        · have := B.far hw e hx
          omega
    omega
theorem Ci.w {g : Gr} {s : Nat} {c : List Nat} (h : Ci g s c) : W g s c.length s := by
  have hl := (List.getElem?_eq_some_iff.mp h.hd).1
  have all : ∀ i x, c[i]? = some x → W g s i x := fun i => by
    induction i with
    | zero => intro x hx; rw [h.hd] at hx; cases hx; exact .z
    | succ i ih =>
      intro x hx
      have hi := (List.getElem?_eq_some_iff.mp hx).1
      have hy : c[i]? = some c[i] := List.getElem?_eq_getElem (by omega)
      exact .s (ih _ hy) (h.st i _ _ hy hx)
  have hy : c[c.length - 1]? = some c[c.length - 1] := List.getElem?_eq_getElem (by omega)
  have := W.s (all _ _ hy) (h.cl _ hy)
  rw [show c.length - 1 + 1 = c.length by omega] at this
  exact this
/-- level by level: re is met first behind k + 1 edges, se behind at most so many -/
structure Lv (g : Gr) (s : Nat) (re se : List Nat) (k : Nat) : Prop where
  nd : se.Nodup
  lt : ∀ x ∈ se, x < g.length
  sub : ∀ x ∈ re, x ∈ se
  w : ∀ x ∈ re, W g s (k + 1) x
  a : ∀ x ∈ se, x ∉ re → ∃ m, 1 ≤ m ∧ m ≤ k ∧ W g s m x
  b : ∀ m x, 1 ≤ m → m ≤ k + 1 → W g s m x → x ∈ se
  cl : ∀ x ∈ se, x ∉ re → ∀ y ∈ ed g x, y ∈ se
  no : ∀ m, 1 ≤ m → m ≤ k → ¬ W g s m s
  ln : re ≠ [] → k + 1 ≤ se.length
  ne : re = [] → k = 0
theorem Lv.init {g : Gr} {s : Nat} (ok : Ok g) (nd : (ed g s).Nodup) : Lv g s (ed g s) (ed g s) 0 where
  nd := nd
  lt := fun x h => ok s x h
  sub := fun _ h => h
  w := fun x h => .s .z h
  a := fun x h n => absurd h n
  b := fun m x h1 h2 h => by
    have : m = 0 + 1 := by omega
    subst this
    cases h with
    | s hw he => cases hw; exact he
  cl := fun x h n => absurd h n
  no := fun m h1 h2 => by omega
  ln := fun n => by
    have := List.length_pos_iff.mpr n
    omega
  ne := fun _ => rfl
theorem Lv.no' {g : Gr} {s k : Nat} {re se : List Nat} (L : Lv g s re se k) (hs : s ∉ re) : s ∉ se := fun h => by
  obtain ⟨m, h1, h2, h3⟩ := L.a s h hs
  exact L.no m h1 h2 h3
theorem Lv.next {g : Gr} {s k : Nat} {re se mo : List Nat} (L : Lv g s re se k) (ok : Ok g) (hs : s ∉ re) (mn : mo.Nodup) (hm : ∀ y, y ∈ mo ↔ y ∉ se ∧ ∃ x ∈ re, y ∈ ed g x) (ne : mo ≠ []) : Lv g s mo (se ++ mo) (k + 1) where
  nd := by
    rw [List.nodup_append]
    exact ⟨L.nd, mn, fun x h y hy e => ((hm y).mp hy).1 (e ▸ h)⟩
  lt := fun x h => (List.mem_append.mp h).elim (L.lt x) fun h => by
    obtain ⟨_, y, _, hy⟩ := (hm x).mp h
    exact ok y x hy
  sub := fun x h => List.mem_append.mpr (.inr h)
  w := fun x h => by
    obtain ⟨_, y, h1, h2⟩ := (hm x).mp h
    exact .s (L.w y h1) h2
  a := fun x h n => by
    have hx := (List.mem_append.mp h).resolve_right n
    by_cases e : x ∈ re
    · exact ⟨k + 1, by omega, Nat.le_refl _, L.w x e⟩
    · obtain ⟨m, h1, h2, h3⟩ := L.a x hx e
      exact ⟨m, h1, by omega, h3⟩
  b := fun m x h1 h2 h => by
    by_cases e : m ≤ k + 1
    · exact List.mem_append.mpr (.inl (L.b m x h1 e h))
    · have e2 : m = (k + 1) + 1 := by omega
      subst e2
      cases h with
      | @s _ y _ hw he =>
        have hy := L.b (k + 1) y (by omega) (Nat.le_refl _) hw
        by_cases q : x ∈ se
        · exact List.mem_append.mpr (.inl q)
        · refine List.mem_append.mpr (.inr ((hm x).mpr ⟨q, y, ?_, he⟩))
          by_cases z : y ∈ re
          · exact z
          · exact absurd (L.cl y hy z x he) q
  cl := fun x h n y hy => by
    have hx := (List.mem_append.mp h).resolve_right n
    by_cases e : x ∈ re
    · by_cases q : y ∈ se
      · exact List.mem_append.mpr (.inl q)
      · exact List.mem_append.mpr (.inr ((hm y).mpr ⟨q, x, e, hy⟩))
    · exact List.mem_append.mpr (.inl (L.cl x hx e y hy))
  no := fun m h1 h2 h => by
    by_cases e : m ≤ k
    · exact L.no m h1 e h
    · have e2 : m = k + 1 := by omega
      subst e2
      exact L.no' hs (L.b (k + 1) s (by omega) (Nat.le_refl _) h)
  ln := fun _ => by
    have hp := List.length_pos_iff.mpr ne
    have : re ≠ [] := fun z => by
      obtain ⟨y, hy⟩ := List.exists_mem_of_ne_nil mo ne
      obtain ⟨_, x, hx, _⟩ := (hm y).mp hy
      rw [z] at hx; cases hx
    have := L.ln this
    rw [List.length_append]
    omega
  ne := fun z => absurd z ne
theorem Lv.none {g : Gr} {s k : Nat} {re se mo : List Nat} (L : Lv g s re se k) (hs : s ∉ re) (hm : ∀ y, y ∈ mo ↔ y ∉ se ∧ ∃ x ∈ re, y ∈ ed g x) (e : mo = []) : ¬ Cyc g s := fun h => by
  obtain ⟨m, hw⟩ := h.w
  have cl : ∀ x ∈ se, ∀ y ∈ ed g x, y ∈ se := fun x hx y hy => by
    by_cases z : x ∈ re
    · by_cases q : y ∈ se
      · exact q
      · have := (hm y).mpr ⟨q, x, z, hy⟩
        rw [e] at this; cases this
    · exact L.cl x hx z y hy
  have all : ∀ m x, W g s (m + 1) x → x ∈ se := fun m => by
    induction m with
    | zero => exact fun x h => L.b 1 x (Nat.le_refl _) (by omega) h
    | succ m ih =>
      intro x h
      cases h with
      | s hw he => exact cl _ (ih _ hw) _ he
  exact L.no' hs (all m s hw)
theorem Lv.found {g : Gr} {s k : Nat} {re se : List Nat} (L : Lv g s re se k) (hs : s ∈ re) : W g s (k + 1) s ∧ ∀ m, W g s (m + 1) s → k ≤ m := ⟨L.w s hs, fun m h => by
  rcases Nat.lt_or_ge m k with z | z
  · exact absurd h (L.no (m + 1) (by omega) z)
  · exact z⟩
theorem Lv.full {g : Gr} {s : Nat} {re se : List Nat} (L : Lv g s re se g.length) (h : 0 < g.length) : False := by
  by_cases e : re = []
  · have := L.ne e; omega
  · have := L.ln e
    have := nodup_len L.nd L.lt
    omega
end MG

namespace WET
open PySem PySem.Spec PyProof.Rows L2
/-! ### enumerate(tuple) -/
theorem new_of {v : Value} {o : Obj} {Hh : Heap → Prop} (B : Begins v o Hh) :
    Meets (Builtin.«enumerate.__new__» ⟨[.type "enumerate", v], []⟩) (fun _ R s => Hh s.heap ∧
      R (.ok (.ret (.ref (s.heap.push o).objs.size))) { s with heap := (s.heap.push o).push { cls := .type "enumerate", data := .fields #[.none, .bool false, .ref s.heap.objs.size, rawInt 0, .none, .none] } }) :=
  .of_wp fun prog w A R s h => by
    obtain ⟨hp, g, d, tk, os⟩ := s
    obtain ⟨h1, h⟩ := h
    have sub := sub_enumerate
    have it1 : ∀ {A' : Around} {E : Value → Shared → Prop} {Q : Value → Shared → Prop}, Q (.ref hp.objs.size) ⟨hp.push o, g, d, tk, os⟩ → wpAny (model prog w) A' (pyIter v) Q E ⟨hp, g, d, tk, os⟩ :=
      fun q => B.iter prog w _ _ ⟨hp, g, d, tk, os⟩ _ h1 q
    wp_walk using it1
    refine wpAny_stack_any fun st => wpAny_pure ?_
    split
    · rename_i cc _ _ _ _ _
      cases (cc == Value.type "enumerate")
      · wp_walk using it1
        exact ⟨_, rfl, h⟩
      · wp_walk using it1
        exact ⟨_, rfl, h⟩
    · wp_walk using it1
      exact ⟨_, rfl, h⟩
theorem begin_of {prog : Program} {w : World} {A : Around} {E : Value → Shared → Prop} {s : Shared} {v : Value} {o : Obj} {Hh : Heap → Prop} {Q : Value → Shared → Prop} (B : Begins v o Hh) (h1 : Hh s.heap)
    (k : ∀ h', IsEnum h' (s.heap.objs.size + 1) s.heap.objs.size 0 .none → h'.get? s.heap.objs.size = some o → h'.objs.size = s.heap.objs.size + 2 →
      (∀ b u, s.heap.get? b = some u → h'.get? b = some u) → Q (.ref (s.heap.objs.size + 1)) { s with heap := h' }) :
    wpAny (model prog w) A (call (.type "enumerate") [v]) Q E s := by
  refine callType_new F.called_enumerate (by decide) (F.typeCall_enumerate_1 _) (F.newCall_enumerate_1 _) (fun obj => F.args_object_init_2 obj _) F.entry_enumerate_new (new_of B) ⟨h1, ?_⟩
  have hz : (s.heap.push o).objs.size = s.heap.objs.size + 1 := Heap.size_push ..
  show _ ∧ _
  rw [hz]
  have en : IsEnum ((s.heap.push o).push { cls := .type "enumerate", data := .fields #[.none, .bool false, .ref s.heap.objs.size, rawInt 0, .none, .none] }) (s.heap.objs.size + 1) s.heap.objs.size 0 .none := by
    have q := Heap.get?_push_size (s.heap.push o) (o := { cls := .type "enumerate", data := .fields #[.none, .bool false, .ref s.heap.objs.size, rawInt 0, .none, .none] }) rfl
    rw [hz] at q; exact q
  refine ⟨⟨_, en, rfl⟩, k _ en (Heap.get?_push_of_some _ (Heap.get?_push_size _ B.free)) (by rw [Heap.size_push, hz]) fun b u x => Heap.get?_push_of_some _ (Heap.get?_push_of_some _ x)⟩
def Itn (K : PySem.W.Frag) (a : Addr) : It where
  go := fun n G => ∃ (ys : List V) (y : V), SqT K G a ys ∧ ys[n]? = some y
  yld := fun n G v G' => ∃ N y, v = .ref N ∧ G N = none ∧ G' = upd G N (.tup [.int ((n : Nat) : Int), y]) ∧ ∀ ys, SqT K G a ys → ys[n]? = some y
  stop := fun n G => ∃ ys : List V, SqT K G a ys ∧ ys.length = n
theorem apart_t {h : Heap} {li l : Addr} {n : Nat} {vs : Array Value} (a : h.IsTupleIter li l n) (b : IsTup h l vs) : l ≠ li := fun z => by
  obtain ⟨u, hu, uc, _⟩ := a
  obtain ⟨o, ho, oc, _⟩ := b
  rw [z, hu] at ho
  cases ho
  rw [uc] at oc
  exact absurd oc (by decide)
theorem tup_is {h : Heap} {l : Addr} {vs : Array Value} (b : IsTup h l vs) : h.IsTuple l vs := b
theorem turn0 {P : Program} {w : World} {K : PySem.W.Frag} {els : List Expr} {kd : Nat} {tp : Pos} (a en li : Addr) (hne : a ≠ li) :
    Turn P w K (.Tuple els kd tp) (Itn K a) [en, li] en (fun n h => (∃ pr, IsEnum h en li ((n : Nat) : Int) pr) ∧ h.IsTupleIter li a n ∧ en ≠ li) where
  mem := List.mem_cons_self
  obj := fun n h ⟨⟨pr, hE⟩, ⟨u, hu, uc, ud⟩, _⟩ b hb => by
    have cs : b = en ∨ b = li := by simpa using hb
    rcases cs with rfl | rfl
    · exact ⟨_, hE, fun v q => nomatch q⟩
    · exact ⟨u, hu, fun v q => by rw [ud] at q; cases q⟩
  keep := fun n h h2 ⟨⟨pr, hE⟩, hI, ne⟩ kp => ⟨⟨pr, kp en List.mem_cons_self _ hE⟩, hI.at fun u q => kp li (by simp) u q, ne⟩
  item := by
    intro X h1 h2 h3 hc n pins s σ G E I free st hg
    subst h1 h2 h3
    obtain ⟨⟨pr, hE⟩, hI, ne⟩ := st
    obtain ⟨ys, y, sq, hy⟩ := hg
    obtain ⟨vs, rv, pl, sz⟩ := I.tuple sq
    obtain ⟨u, hu, ru⟩ := rv.get hy
    have le : en < s.heap.objs.size := Heap.lt_size hE
    have ll : li < s.heap.objs.size := by
      obtain ⟨_, q, _⟩ := hI
      exact Heap.lt_size q
    have D := Draws.tuple (prog := X.prog) (w := X.w) (A := X.A.in1) (I.ok.hd hc) li a hne vs.toArray
    have ne2 : en ≠ a := fun z => by
      obtain ⟨o, ho, oc, _⟩ := pl
      rw [← z, hE] at ho
      cases ho
      exact absurd (show Value.type "enumerate" = Value.type "tuple" from oc) (by decide)
    have lt : n < vs.toArray.size := by
      have := (List.getElem?_eq_some_iff.mp hu).1
      simpa using this
    refine wpAny_pyNext_enum_itemC D hE ⟨hI, tup_is pl⟩ lt ne (by simp [ne, ne2]) fun u' hp2 tk hu' ho hI2' hN hz hk => ?_
    obtain rfl : u = u' := by
      have : vs[n]? = some u' := by simpa using hu'
      rw [hu] at this
      exact Option.some.inj this
    have hI2 := hI2'.1
    refine ⟨_, rfl, wpAny_letOwnedTupleGo_enum (s := { s with heap := hp2, toks := tk + 1 }) ho fun hp3 hE3 sb => ?_⟩
    have nN : s.heap.objs.size ≠ en := Nat.ne_of_gt le
    have at3 : hp3.get? s.heap.objs.size = some { cls := .type "tuple", data := .seq #[.int ((n : Nat) : Int) tk, u] } := by rw [sb.2 _ nN]; exact hN
    have two : 2 ≤ sizeLine := by decide
    have okT : ObjOk X.prog X.w (upd G s.heap.objs.size (.tup [.int ((n : Nat) : Int), y])) hp3 s.heap.objs.size (.tup [.int ((n : Nat) : Int), y]) :=
      ⟨two, [.int ((n : Nat) : Int) tk, u], .cons ⟨_, rfl⟩ (.cons ru .nil), ⟨_, at3, rfl, _, rfl⟩⟩
    have J : Inv X pins σ (upd G s.heap.objs.size (.tup [.int ((n : Nat) : Int), y])) { s with heap := hp3, toks := tk + 1 } := by
      refine I.turnedNew (ch := [en, li]) (fun b ob hb q => ?_) free (Nat.le_refl _) okT
      have b1 : b ≠ en := fun z => hb (by simp [z])
      have b2 : b ≠ li := fun z => hb (by simp [z])
      rw [sb.2 b b1]
      exact hk b ob b1 b2 q
    refine ⟨.ref s.heap.objs.size, _, J, rfl, ⟨_, y, rfl, I.hok.fresh (Nat.le_refl _), rfl, fun zs hs => by rw [I.tuple_inj hs sq]; exact hy⟩, ⟨⟨u, ?_⟩, hI2.at fun ob q => by rw [sb.2 li (Ne.symm ne)]; exact q, ne⟩, fun b hb => ?_⟩
    · rw [show ((n + 1 : Nat) : Int) = ((n : Nat) : Int) + 1 by omega]
      exact hE3
    · have lb : b < s.heap.objs.size := by
        have cs : b = en ∨ b = li := by simpa using hb
        rcases cs with rfl | rfl
        · exact le
        · exact ll
      rw [upd_ne (Nat.ne_of_lt lb)]
      exact (free b hb).1
  done := by
    intro X h1 h2 h3 hc n pins s σ G E I free st hg
    subst h1 h2 h3
    obtain ⟨⟨pr, hE⟩, hI, ne⟩ := st
    obtain ⟨ys, sq, ln⟩ := hg
    obtain ⟨vs, rv, pl, sz⟩ := I.tuple sq
    obtain ⟨g0, g1, g2, g3, g4, g5⟩ := free li (by simp)
    have lv := rv.length
    obtain rfl : vs.toArray.size = n := by simp; omega
    exact wpAny_pyNext_enum_endD (Draws.tuple (prog := X.prog) (w := X.w) (A := X.A.in1) (I.ok.hd hc) li a hne vs.toArray) hE ⟨hI, tup_is pl⟩ fun hp2 same => ⟨rfl, I.turned (t' := s.toks) (fun b ob hb q => same b ob hb q) g0 g1 g3 g4 g5⟩
  self := fun A n s Q E ⟨⟨_, hE⟩, _⟩ h => wpAny_pyIter_enum hE h
def iEnumT (K : PySem.W.Frag) (ta : TA) : TI := fun σ G R => ta σ G fun vs G1 => ∃ a ys, vs = [.ref a] ∧ SqT K G1 a ys ∧ R (Itn K a) G1
theorem pi_enumT {X : Cx} {e : Expr} {ta : TA} {p ps tp : Pos} {els : List Expr} {kd : Nat} (hg : Gl X "enumerate") (hm : X.mg "enumerate" = none) (ha : PA X [e] ta) (hs : starEach [e] X.env = [(false, eval e X.env)] := by rfl) :
    PI X (.Tuple els kd tp) (.Call (.Name "enumerate" p) [e] [] ps) (iEnumT X.K ta) := by
  refine ⟨fun pins s σ G R I h => ?_⟩
  refine Call_ (ld_blt I hg hm boot_enumerate (PyProof.Rows.callWith_type1 (thn (ha.run ps pins s σ G _ I h) fun us s1 ⟨vs, G1, I1, r1, q1⟩ => ?_) hs rfl))
  obtain ⟨a, ys, ev, sq, k⟩ := q1
  subst ev
  cases r1 with
  | cons r rr =>
    cases rr
    cases r
    obtain ⟨vs, rv, pl, sz⟩ := I1.tuple sq
    refine begin_of (begins_tuple a vs.toArray) (tup_is pl) fun hp2 hE hLi hz kp => wpAny_pyIter_enum hE ?_
    have J : Inv X pins σ G1 { s1 with heap := hp2 } := I1.kept (t' := s1.toks) kp
    have lit : hp2.IsTupleIter s1.heap.objs.size a 0 := ⟨_, hLi, rfl, rfl⟩
    have na : a ≠ s1.heap.objs.size := by
      obtain ⟨o, ho, _⟩ := pl
      exact Nat.ne_of_lt (Heap.lt_size ho)
    refine ⟨s1.heap.objs.size + 1, [s1.heap.objs.size + 1, s1.heap.objs.size], _, _, G1, rfl, J, turn0 a (s1.heap.objs.size + 1) s1.heap.objs.size na, ⟨⟨.none, hE⟩, lit, Nat.succ_ne_self _⟩, fun b hb => ?_, k⟩
    have cs : b = s1.heap.objs.size + 1 ∨ b = s1.heap.objs.size := by simpa using hb
    have le : s1.heap.objs.size ≤ b := by
      rcases cs with z | z
      · rw [z]; exact Nat.le_succ _
      · exact Nat.le_of_eq z.symm
    exact I1.fpOk le (I1.hok.fresh le)
/-- for n, x in enumerate(a tuple) -/
theorem for_enumT {K : PySem.W.Frag} {a : Addr} {ys : List V} {g : TG} {tb : TS} {D : Ends} {σ : L2.St} {G : Hp} (Pv : Nat → L2.St → Hp → Prop) (h0 : Pv 0 σ G) (hq : ∀ i σ G, i ≤ ys.length → Pv i σ G → SqT K G a ys)
    (hs : ∀ i y σ G N, ys[i]? = some y → G N = none → Pv i σ G → g (.ref N) σ (upd G N (.tup [.int ((i : Nat) : Int), y])) fun σ2 G2 => tb { D with nx := Pv (i + 1), ct := Pv (i + 1), bk := D.nx } σ2 G2) (hd : ∀ σ G, Pv ys.length σ G → D.nx σ G) :
    ∃ W : Nat → Nat → L2.St → Hp → Prop, (∃ m, W 0 m σ G) ∧ ∀ i m σ G, W i m σ G →
      ((Itn K a).stop i G ∧ D.nx σ G) ∨ ((Itn K a).go i G ∧ ∃ N : L2.St → Hp → Prop, (∀ σ' G', N σ' G' → ∃ m', m' < m ∧ W (i + 1) m' σ' G') ∧ ∀ x G', (Itn K a).yld i G x G' → g x σ G' fun σ2 G2 => tb { D with nx := N, ct := N, bk := D.nx } σ2 G2) := by
  refine ⟨fun i m σ G => i ≤ ys.length ∧ m = ys.length - i ∧ Pv i σ G, ⟨_, Nat.zero_le _, rfl, h0⟩, fun i m σ G hw => ?_⟩
  obtain ⟨le, rfl, pv⟩ := hw
  have sq := hq i σ G le pv
  rcases Nat.lt_or_ge i ys.length with lt | ge
  · have hy := List.getElem?_eq_getElem lt
    refine .inr ⟨⟨ys, _, sq, hy⟩, Pv (i + 1), fun σ' G' n => ⟨_, by omega, lt, rfl, n⟩, ?_⟩
    rintro x G' ⟨N, y, rfl, gn, rfl, al⟩
    exact hs i y σ G N (al ys sq) gn pv
  · have e : i = ys.length := by omega
    subst e
    exact .inl ⟨⟨ys, sq, rfl⟩, hd σ G pv⟩
end WET
namespace WP
open PySem PySem.Spec PyProof.Rows L2
theorem enumT {K : PySem.W.Frag} {ta : TA} {σ : L2.St} {G : Hp} {R : It → Hp → Prop} (h : ta σ G fun vs G1 => ∃ a ys, vs = [.ref a] ∧ SqT K G1 a ys ∧ R (WET.Itn K a) G1) : WET.iEnumT K ta σ G R := h
end WP

namespace D
open PySem PySem.Spec PyProof.Rows L2
local macro_rules | `(tactic| k_memK) => `(tactic| first
  | (with_reducible refine WP.eqTS ?_) | (with_reducible refine WP.neTS ?_) | (with_reducible refine WP.bm ?_) | (with_reducible refine WP.tyS ?_) | (with_reducible refine WP.gsub ?_) | (with_reducible refine WP.rng3 ?_) | (with_reducible refine WP.sfld ?_) | (with_reducible refine WP.make ?_) | (with_reducible refine WP.gsl ?_) | (with_reducible refine WP.wstr ?_) | (with_reducible refine WP.bm0 ?_) | (with_reducible refine WP.lc ?_) | (with_reducible refine WP.jr ?_) | (with_reducible refine WP.zipS ?_) | (with_reducible refine WP.par ?_) | (with_reducible refine WP.enumT ?_) | (with_reducible refine WP.tupRev ?_) | (with_reducible refine WP.rev ?_) | (with_reducible refine WP.dnewK ?_) | (with_reducible refine WP.din ?_) | (with_reducible refine WP.dnotin ?_) | (with_reducible refine WP.dput ?_) | (with_reducible refine WP.dget ?_) | (with_reducible refine WP.ckw ?_)
  | (with_reducible refine WP.seq ?_) | (with_reducible refine WP.asg ?_) | (with_reducible refine WP.name ?_)
  | ((with_reducible show tVar _ _ _ _); refine WP.var rfl ?_) | (with_reducible refine WP.con ?_) | (with_reducible refine WP.op ?_) | (with_reducible refine WP.i0 ?_)
  | (with_reducible refine WP.un ?_) | (with_reducible refine WP.rU_ ?_)
  | (with_reducible refine WP.ifS ?_) | (with_reducible refine WP.ifE ?_) | (with_reducible refine WP.test ?_) | (with_reducible refine WP.bt ?_) | (with_reducible refine WP.isbV ?_)
  | (with_reducible refine WP.ret ?_) | (with_reducible refine WP.retN ?_) | (with_reducible refine WP.drop ?_) | (with_reducible refine WP.next ?_) | (with_reducible refine WP.brk ?_) | (with_reducible refine WP.cont ?_)
  | (with_reducible refine WP.cb ?_) | (with_reducible refine WP.call ?_) | (with_reducible refine WP.cons ?_) | (with_reducible refine WP.nil ?_) | (with_reducible refine WP.tup ?_) | (with_reducible refine WP.lst ?_)
  | (with_reducible refine WP.eqI ?_) | (with_reducible refine WP.neI ?_) | (with_reducible refine WP.eqT ?_) | (with_reducible refine WP.neT ?_) | (with_reducible refine WP.eqB ?_) | (with_reducible refine WP.neB ?_)
  | (with_reducible refine WP.notT ?_) | (with_reducible refine WP.andT ?_) | (with_reducible refine WP.orT ?_) | (with_reducible refine WP.andV ?_) | (with_reducible refine WP.orV ?_) | (with_reducible refine WP.notV ?_)
  | (with_reducible refine WP.sl ?_) | (with_reducible refine WP.noPart ?_) | (with_reducible refine WP.part ?_) | (with_reducible refine WP.isi ?_) | (with_reducible refine WP.isbV ?_) | (with_reducible refine WP.gsCons ?_) | (with_reducible refine WP.gsNil ?_) | (with_reducible refine WP.forl ?_) | (with_reducible refine WP.rng1 ?_) | (with_reducible refine WP.rng2 ?_) | (with_reducible refine WP.walkL ?_) | (with_reducible refine WP.walkT ?_))
local macro_rules | `(tactic| k_updF) => `(tactic| repeat k_memK)

def top (i : Nat) : Stmt := PySem.Challenge.pw_cardwright_k42_circles.main.body.getD i (.Pass ⟨0, 0, 0, 0⟩)
structure Blt (w : World) (K : PySem.W.Frag) (mg : Str → Option Value) : Prop where
  b_bool : mg "bool" = none
  b_enumerate : mg "enumerate" = none
  b_int : mg "int" = none
  b_isinstance : mg "isinstance" = none
  b_len : mg "len" = none
  b_list : mg "list" = none
  b_min : mg "min" = none
  b_range : mg "range" = none
  b_reversed : mg "reversed" = none
  b_sorted : mg "sorted" = none
  b_str : mg "str" = none
  b_tuple : mg "tuple" = none
abbrev s__law_draws : Stmt := top 7
abbrev N__law_draws : List Str := ["script"]
theorem sc__law_draws : FnScope N__law_draws ["script"] (defScope s__law_draws) := ⟨rfl, rfl, rfl, by decide +kernel, rfl, by decide +kernel, by decide +kernel⟩
/-- the drawing state at d: z is its list and the list's numbers -/
abbrev DZ := Addr × List Int
def DS (K : PySem.W.Frag) (H : Hp) (d : Addr) (z : DZ) : Prop := ∃ (pos cur mix : Int), H d = some (.lst [.ref z.1, .int pos, .int cur, .int mix]) ∧ z.1 ≠ d ∧ H z.1 = some (.lst (z.2.map V.int)) ∧ 0 ≤ pos
theorem DS.same {K : PySem.W.Frag} {H H' : Hp} {d : Addr} {z : DZ} (e : Same H H') (h : DS K H d z) : DS K H' d z := by
  obtain ⟨pos, cur, mix, h1, h2, h3, h4⟩ := h
  exact ⟨pos, cur, mix, e _ _ h1, h2, e _ _ h3, h4⟩
theorem DS.lst {K : PySem.W.Frag} {H : Hp} {d : Addr} {z : DZ} (h : DS K H d z) : ∃ xs, H d = some (.lst xs) := by
  obtain ⟨pos, cur, mix, h1, _⟩ := h
  exact ⟨_, h1⟩
theorem DS.tup {K : PySem.W.Frag} {H H' : Hp} {d p : Addr} {z : DZ} {xs : List V} (h : DS K H d z) (s : WP.Sx d H H') (hp : SqT K H p xs) : SqT K H' p xs := by
  obtain ⟨ys, hx⟩ := h.lst
  exact WP.sqtX s hx hp
theorem DS.new {K : PySem.W.Frag} {H : Hp} {d p : Addr} {z : DZ} (h : DS K H d z) (hp : H p = none) : p ≠ d ∧ p ≠ z.1 := by
  obtain ⟨pos, cur, mix, h1, h2, h3, h4⟩ := h
  exact ⟨fun e => (by rw [e, h1] at hp; cases hp), fun e => (by rw [e, h3] at hp; cases hp)⟩
theorem DS.mut {K : PySem.W.Frag} {H : Hp} {d p : Addr} {z : DZ} {o : HO} (h : DS K H d z) (n : p ≠ d ∧ p ≠ z.1) : DS K (upd H p o) d z := by
  obtain ⟨pos, cur, mix, h1, h2, h3, h4⟩ := h
  exact ⟨pos, cur, mix, by rw [upd_ne (Ne.symm n.1)]; exact h1, h2, by rw [upd_ne (Ne.symm n.2)]; exact h3, h4⟩
theorem DS.alloc {K : PySem.W.Frag} {H : Hp} {d T : Addr} {z : DZ} {o : HO} (h : DS K H d z) (hT : H T = none) : DS K (upd H T o) d z ∧ T ≠ d ∧ WP.Sx d H (upd H T o) ∧ (upd H T o) T = some o :=
  ⟨h.same (WP.same_new hT), (h.new hT).1, WP.Sx.of (WP.same_new hT), upd_same⟩
/-- what was new may be stored to -/
theorem sx_mut {d p : Addr} {H H' : Hp} {o : HO} (e : WP.Sx d H H') (h : H p = none) : WP.Sx d H (upd H' p o) := fun a u n ha => by
  rw [upd_ne (ne_of_none ha h)]; exact e a u n ha
theorem sx_free {d p : Addr} {H H' : Hp} (e : WP.Sx d H H') (n : p ≠ d) (h : H' p = none) : H p = none := by
  cases q : H p with
  | none => rfl
  | some o => have := e p o n q; rw [h] at this; cases this
def sp__law_draws (K : PySem.W.Frag) (mg : WP.MG) : Sp := fun vs H Q _ => ∃ (a : Addr) (ns : List Int), vs = [.ref a] ∧ SqL K H a (ns.map V.int) ∧ ∀ d z H', z.2 = ns → H z.1 = none → H d = none → Same H H' → DS K H' d z → Q (.ref d) H'
section
variable {P : Program} {w : World} {K : PySem.W.Frag} {mg : Str → Option Value} {base : Heap}
theorem ok__law_draws {f : Addr} {fd : FuncData} (F : Fun K "_law_draws" "_law_draws" s__law_draws f fd) (B : Blt w K mg)  : FnOk P w K mg base CX0 1 f fd ["script"] (sp__law_draws K mg) := by
  refine F.ok sc__law_draws (fun vs H Q E h => ?_) (fun cdv A outer s H vs Q E hr h => ?_)
  · first | (obtain ⟨_, rfl, _⟩ := h; rfl) | (obtain ⟨_, _, rfl, _⟩ := h; rfl) | (obtain ⟨_, _, _, rfl, _⟩ := h; rfl) | (obtain ⟨_, _, _, _, rfl, _⟩ := h; rfl) | (obtain ⟨_, _, _, _, _, rfl, _⟩ := h; rfl) | (obtain ⟨_, _, _, _, _, _, rfl, _⟩ := h; rfl) | (obtain ⟨_, _, _, _, _, _, _, rfl, _⟩ := h; rfl) | (obtain ⟨_, _, _, _, _, _, _, _, rfl, _⟩ := h; rfl) | (obtain ⟨rfl, _⟩ := h; rfl)
  · obtain ⟨a, ns, rfl, ha, k⟩ := h
    refine ⟨_, (pss_one (ps_ret (pe_lst (WP.pa_consN (pe_callTy WP.c_listOf (by rfl) B.b_list (by decide +kernel) (WP.pa_consN (pv 0) pa_nil)) (WP.pa_consN pe_int (WP.pa_consN pe_int (WP.pa_consN pe_int pa_nil))))))), ?_⟩
    k_updF
    refine WP.listL ha (fun l hl => ?_)
    k_updF
    refine ⟨WP.sz (show 4 ≤ 1000000 by decide), fun d hd => ?_⟩
    have ne : l ≠ d := fun z => by subst z; rw [upd_same] at hd; cases hd
    exact k d (l, ns) _ rfl hl ((WP.same_new hl).free hd) ((WP.same_new hl).trans (WP.same_new hd)) ⟨0, 0, 1, upd_same, ne, by rw [upd_ne ne, upd_same], by decide⟩
end
abbrev s__law_draw : Stmt := top 8
abbrev N__law_draw : List Str := ["draws", "limit", "cell", "value"]
theorem sc__law_draw : FnScope N__law_draw ["draws", "limit"] (defScope s__law_draw) := ⟨rfl, rfl, rfl, by decide +kernel, rfl, by decide +kernel, by decide +kernel⟩
def sp__law_draw (K : PySem.W.Frag) (mg : WP.MG) : Sp := fun vs H Q _ => ∃ (d : Addr) (ns : DZ) (m : Int), vs = [.ref d, .int m] ∧ 0 < m ∧ WP.Bt m 8000 ∧ DS K H d ns ∧ ∀ v H', 0 ≤ v → v < m → WP.Sx d H H' → DS K H' d ns → Q (.int v) H'
section
variable {P : Program} {w : World} {K : PySem.W.Frag} {mg : Str → Option Value} {base : Heap}
theorem ok__law_draw {f : Addr} {fd : FuncData} (F : Fun K "_law_draw" "_law_draw" s__law_draw f fd) (B : Blt w K mg)  : FnOk P w K mg base CX0 1 f fd ["draws", "limit"] (sp__law_draw K mg) := by
  refine F.ok sc__law_draw (fun vs H Q E h => ?_) (fun cdv A outer s H vs Q E hr h => ?_)
  · first | (obtain ⟨_, rfl, _⟩ := h; rfl) | (obtain ⟨_, _, rfl, _⟩ := h; rfl) | (obtain ⟨_, _, _, rfl, _⟩ := h; rfl) | (obtain ⟨_, _, _, _, rfl, _⟩ := h; rfl) | (obtain ⟨_, _, _, _, _, rfl, _⟩ := h; rfl) | (obtain ⟨_, _, _, _, _, _, rfl, _⟩ := h; rfl) | (obtain ⟨_, _, _, _, _, _, _, rfl, _⟩ := h; rfl) | (obtain ⟨_, _, _, _, _, _, _, _, rfl, _⟩ := h; rfl) | (obtain ⟨rfl, _⟩ := h; rfl)
  · obtain ⟨d, ns, m, rfl, hm, bm, hd, k⟩ := h
    refine ⟨_, (Evl.pss_cut (ps_if (PW.pt (pw_and (pt_cmpR op_eq (pe_ix ix_list (pv 0) pe_int (fun _ _ => rfl)) pe_int (nomark _)) (pw_and1 (pt_cmpR op_lt (pe_ix ix_list (pv 0) pe_int (fun _ _ => rfl)) (pe_callB WP.c_len (by rfl) B.b_len (by decide +kernel) (WP.pa_consN (pe_ix ix_list (pv 0) pe_int (fun _ _ => rfl)) pa_nil)) (nomark _))))) (pss_cons (ps_set (i := 2) sc__law_draw.nd rfl (Or.inl rfl) (pe_ix ix_list (pe_ix ix_list (pv 0) pe_int (fun _ _ => rfl)) (pe_ix ix_list (pv 0) pe_int (fun _ _ => rfl)) (fun _ _ => rfl)))
      (pss_cons (ps_asg (pe_op op_add (pe_ix ix_list (pv 0) pe_int (fun _ _ => rfl)) pe_int) (pg_sub (pv 0) pe_int set_list))
      (Evl.pss_cut (ps_if (pt_cmpR op_ge (pv 2) (pe_op op_pow pe_int pe_int) (nomark _)) (pss_one (ps_asg (pv 2) (pg_sub (pv 0) pe_int set_list))) pss_nil)
      (pss_one (ps_asg (pe_op op_mod (pe_callTy WP.c_int1 (by rfl) B.b_int (by decide +kernel) (WP.pa_consN (pe_op op_add (pe_op op_add (pe_op op_mul (pe_ix ix_list (pv 0) pe_int (fun _ _ => rfl)) pe_int) (pv 2)) pe_int) pa_nil)) pe_int) (pg_sub (pv 0) pe_int set_list)))))) pss_nil)
      (pss_cons (ps_if (pt_cmpR op_gt (pe_ix ix_list (pv 0) pe_int (fun _ _ => rfl)) pe_int (nomark _)) (pss_cons (ps_set (i := 3) sc__law_draw.nd rfl (Or.inl rfl) (pe_op op_mod (pe_callTy WP.c_int1 (by rfl) B.b_int (by decide +kernel) (WP.pa_consN (pe_ix ix_list (pv 0) pe_int (fun _ _ => rfl)) pa_nil)) (pv 1)))
      (pss_cons (ps_asg (pe_op op_fdivW (pe_ix ix_list (pv 0) pe_int (fun _ _ => rfl)) (pv 1)) (pg_sub (pv 0) pe_int set_list))
      (pss_one (ps_ret (pv 3))))) pss_nil)
      (pss_cons (ps_asg (pe_op op_mod (pe_callTy WP.c_int1 (by rfl) B.b_int (by decide +kernel) (WP.pa_consN (pe_op op_add (pe_op op_mul (pe_ix ix_list (pv 0) pe_int (fun _ _ => rfl)) pe_int) pe_int) pa_nil)) pe_int) (pg_sub (pv 0) pe_int set_list))
      (pss_one (ps_ret (pe_op op_mod (pe_callTy WP.c_int1 (by rfl) B.b_int (by decide +kernel) (WP.pa_consN (pe_op op_fdiv (pe_ix ix_list (pv 0) pe_int (fun _ _ => rfl)) pe_int) pa_nil)) (pv 1))))))), ?_⟩
    obtain ⟨l, ns⟩ := ns
    obtain ⟨pos, cur, mix, h1, h2, h3, h4⟩ := hd
    have h3 : SqL K H l (ns.map V.int) := SqL.of h3
    have h3' : H l = some (.lst (ns.map V.int)) := by assumption
    refine WP.cut (fun σ' H' => (∃ z z2, σ' = [some (.ref d), some (.int m), z, z2]) ∧ WP.Sx d H H' ∧ DS K H' d (l, ns)) ?_ ?_
    · k_updF
      refine WP.ixL (SqL.of h1) WP.at2 ?_
      k_updF
      have hD : DS K H d (l, ns) := ⟨pos, cur, mix, h1, h2, h3', h4⟩
      refine WP.br (fun c => ?_) (fun c => ?_)
      · k_updF
        refine WP.ixL (SqL.of h1) WP.at1 ?_
        k_updF
        refine WP.ixL (SqL.of h1) WP.at0 ?_
        k_updF
        refine WP.lenL h3 ?_
        k_updF
        refine WP.br (fun c2 => ?_) (fun c2 => ?_)
        · k_updF
          rw [List.length_map] at c2
          refine WP.ixL (SqL.of h1) WP.at0 ?_
          k_updF
          refine WP.ixL (SqL.of h1) WP.at1 ?_
          refine WP.ixL h3 (WP.at_ints h4 c2) ?_
          k_updF
          generalize ns.getD pos.toNat 0 = cell
          refine WP.ixL (SqL.of h1) WP.at1 ?_
          k_updF
          refine WP.setL h1 rfl ?_
          generalize hH1 : upd H d _ = H1
          have g1 : H1 d = some (.lst [.ref l, .int (pos + 1), .int cur, .int mix]) := by rw [← hH1, upd_same]; rfl
          have s1 : WP.Sx d H H1 := by rw [← hH1]; exact WP.Sx.upd
          have l1 := WP.sqlX (K := K) s1 h2 h3
          clear hH1
          refine WP.cut (fun σ' H' => σ' = [some (.ref d), some (.int m), some (.int cell), none] ∧ WP.Sx d H H' ∧ ∃ cur, H' d = some (.lst [.ref l, .int (pos + 1), .int cur, .int mix])) ?_ ?_
          · k_updF
            refine WP.iC ⟨by decide, by decide, by decide⟩ ?_
            k_updF
            refine WP.br (fun c => ?_) (fun c => ?_)
            · k_updF
              refine WP.setL g1 rfl ?_
              exact ⟨rfl, s1.trans WP.Sx.upd, cell, by rw [upd_same]; rfl⟩
            · k_updF
              exact ⟨rfl, s1, cur, g1⟩
          · rintro σ' H2 ⟨rfl, s2, cur2, g2⟩
            have l2 := WP.sqlX (K := K) s2 h2 h3
            k_updF
            refine WP.ixL (SqL.of g2) WP.at3 ?_
            k_updF
            refine WP.iC (.inr (by decide)) ?_
            k_updF
            refine WP.intI ?_
            k_updF
            refine WP.iC (by decide) ?_
            k_updF
            refine WP.setL g2 rfl ?_
            refine ⟨⟨_, _, rfl⟩, s2.trans WP.Sx.upd, pos + 1, cur2, _, by rw [upd_same]; rfl, h2, (s2.trans WP.Sx.upd) l _ h2 h3', by omega⟩
        · k_updF
          exact ⟨⟨_, _, rfl⟩, WP.Sx.refl, hD⟩
      · k_updF
        refine WP.brF rfl ?_
        k_updF
        exact ⟨⟨_, _, rfl⟩, WP.Sx.refl, hD⟩
    clear h1 h2 h3 h3' h4 pos cur mix
    rintro σ' H1 ⟨⟨z, z2, rfl⟩, s1, pos, cur, mix, h1, h2, h3', h4⟩
    have h3 : SqL K H1 l (ns.map V.int) := SqL.of h3'
    k_updF
    refine WP.ixL (SqL.of h1) WP.at2 ?_
    k_updF
    refine WP.br (fun c => ?_) (fun c => ?_)
    · k_updF
      refine WP.ixL (SqL.of h1) WP.at2 ?_
      k_updF
      refine WP.intI ?_
      k_updF
      refine WP.iC hm ?_
      k_updF
      refine WP.ixL (SqL.of h1) WP.at2 ?_
      k_updF
      refine WP.iC (WP.Bt.d' hm bm) ?_
      k_updF
      refine WP.setL h1 rfl ?_
      k_updF
      exact k _ _ (Int.emod_nonneg _ (by omega)) (Int.emod_lt_of_pos _ hm) (s1.trans WP.Sx.upd) ⟨pos, _, mix, by rw [upd_same]; rfl, h2, WP.Sx.upd l _ h2 h3', h4⟩
    · k_updF
      refine WP.ixL (SqL.of h1) WP.at3 ?_
      k_updF
      refine WP.iC (.inr (by decide)) ?_
      k_updF
      refine WP.intI ?_
      k_updF
      refine WP.iC (by decide) ?_
      k_updF
      refine WP.setL h1 rfl ?_
      k_updF
      refine WP.ixL (SqL.of upd_same) WP.at3 ?_
      k_updF
      refine WP.iC ⟨by decide, by decide⟩ ?_
      k_updF
      refine WP.intI ?_
      k_updF
      refine WP.iC hm ?_
      exact k _ _ (Int.emod_nonneg _ (by omega)) (Int.emod_lt_of_pos _ hm) (s1.trans WP.Sx.upd) ⟨pos, cur, _, by rw [upd_same]; rfl, h2, WP.Sx.upd l _ h2 h3', h4⟩
end
abbrev s__law_graph : Stmt := top 10
abbrev N__law_graph : List Str := ["draws", "count", "k", "heights", "upward", "most", "rows", "row", "j", "other"]
theorem sc__law_graph : FnScope N__law_graph ["draws"] (defScope s__law_graph) := ⟨rfl, rfl, rfl, by decide +kernel, rfl, by decide +kernel, by decide +kernel⟩
def sp__law_graph (K : PySem.W.Frag) (mg : WP.MG) : Sp := fun vs H Q _ => ∃ (d : Addr) (ns : DZ), vs = [.ref d] ∧ DS K H d ns ∧ ∀ (p : Addr) (g : MG.Gr) (H' : Hp), GrAt K H' p g → GOk g → g.length ≤ 40 → (∀ v, (MG.ed g v).length ≤ 8) → (∀ v, (MG.ed g v).Nodup) → WP.Sx d H H' → DS K H' d ns → Q (.ref p) H'
section
variable {P : Program} {w : World} {K : PySem.W.Frag} {mg : Str → Option Value} {base : Heap}
theorem ok__law_graph {f : Addr} {fd : FuncData} (F : Fun K "_law_graph" "_law_graph" s__law_graph f fd) (B : Blt w K mg) (c__law_draw : WP.Callee P w K mg base CX0 1 "_law_draw" ["draws", "limit"] (sp__law_draw K mg)) : FnOk P w K mg base CX0 2 f fd ["draws"] (sp__law_graph K mg) := by
  refine F.ok sc__law_graph (fun vs H Q E h => ?_) (fun cdv A outer s H vs Q E hr h => ?_)
  · first | (obtain ⟨_, rfl, _⟩ := h; rfl) | (obtain ⟨_, _, rfl, _⟩ := h; rfl) | (obtain ⟨_, _, _, rfl, _⟩ := h; rfl) | (obtain ⟨_, _, _, _, rfl, _⟩ := h; rfl) | (obtain ⟨_, _, _, _, _, rfl, _⟩ := h; rfl) | (obtain ⟨_, _, _, _, _, _, rfl, _⟩ := h; rfl) | (obtain ⟨_, _, _, _, _, _, _, rfl, _⟩ := h; rfl) | (obtain ⟨_, _, _, _, _, _, _, _, rfl, _⟩ := h; rfl) | (obtain ⟨rfl, _⟩ := h; rfl)
  · obtain ⟨d, ns, rfl, hd, k⟩ := h
    refine ⟨_, (pss_cons (ps_set (i := 1) sc__law_graph.nd rfl (Or.inl rfl) (WP.pe_callC c__law_draw hr rfl pass0 (WP.pa_consN (pv 0) (WP.pa_consN (pe_ix ix_list (pe_lst (WP.pa_consN pe_int (WP.pa_consN pe_int pa_nil))) (pe_callTy WP.c_int1 (by rfl) B.b_int (by decide +kernel) (WP.pa_consN (pe_cmpR op_eq (WP.pe_callC c__law_draw hr rfl pass0 (WP.pa_consN (pv 0) (WP.pa_consN pe_int pa_nil))) pe_int (nomark _)) pa_nil)) (fun _ _ => rfl)) pa_nil))))
      (pss_cons (ps_setLc (i := 3) (own := [("k", 2)]) (g := gName 2) (tt := tYes) rfl sc__law_graph.nd rfl rfl (sw_true rfl rfl rfl (by decide +kernel)) (pi_range1 rfl B.b_range (WP.pa_consN (pv 1) pa_nil)) (blkOk_by (own := [("k", 2)]) (N := N__law_graph) (sc := defScope s__law_graph) (by decide +kernel)) (fun _ _ _ _ _ => pg_name (i := 2) sc__law_graph.nd rfl (Or.inl rfl)) (fun _ _ _ _ _ => pts_nil) (fun _ _ _ _ _ => (WP.pe_callC c__law_draw hr rfl pass0 (WP.pa_consN (pv 0) (WP.pa_consN pe_int pa_nil)))))
      (pss_cons (ps_set (i := 4) sc__law_graph.nd rfl (Or.inl rfl) (WP.pe_callC c__law_draw hr rfl pass0 (WP.pa_consN (pv 0) (WP.pa_consN pe_int pa_nil))))
      (pss_cons (ps_set (i := 5) sc__law_graph.nd rfl (Or.inl rfl) (pe_op op_add pe_int (WP.pe_callC c__law_draw hr rfl pass0 (WP.pa_consN (pv 0) (WP.pa_consN pe_int pa_nil)))))
      (pss_cons (ps_set (i := 6) sc__law_graph.nd rfl (Or.inl rfl) (pe_lst pa_nil))
      (pss_cons (ps_for PassesOwn.never rfl (pi_range1 rfl B.b_range (WP.pa_consN (pv 1) pa_nil)) (pg_name (i := 2) sc__law_graph.nd rfl (Or.inl rfl)) (pss_cons (ps_set (i := 7) sc__law_graph.nd rfl (Or.inl rfl) (pe_lst pa_nil))
      (pss_cons (ps_for PassesOwn.never rfl (pi_range1 rfl B.b_range (WP.pa_consN (WP.pe_callC c__law_draw hr rfl pass0 (WP.pa_consN (pv 0) (WP.pa_consN (pv 5) pa_nil))) pa_nil)) (pg_name (i := 8) sc__law_graph.nd rfl (Or.inl rfl)) (pss_cons (ps_set (i := 9) sc__law_graph.nd rfl (Or.inl rfl) (WP.pe_callC c__law_draw hr rfl pass0 (WP.pa_consN (pv 0) (WP.pa_consN (pv 1) pa_nil))))
      (pss_one (ps_if (PW.pt (pw_and (pt_cmpR op_notIn_seq (pv 9) (pv 7) rfl) (pw_and1 (PW.pt (pw_or (pt_cmpR op_eq (pv 4) pe_int (nomark _)) (pw_or1 (pt_cmpR op_lt (pe_ix ix_list (pv 3) (pv 2) (fun _ _ => rfl)) (pe_ix ix_list (pv 3) (pv 9) (fun _ _ => rfl)) (nomark _)))))))) (pss_one (ps_expr (pe_bm PySem.F.plainAttrs_list PySem.F.slot_list_append PySem.F.type_list_append mt_append (pv 7) (WP.pa_consN (pv 9) pa_nil)))) pss_nil))))
      (pss_one (ps_expr (pe_bm PySem.F.plainAttrs_list PySem.F.slot_list_append PySem.F.type_list_append mt_append (pv 6) (WP.pa_consN (pe_callTy WP.c_tupOf (by rfl) B.b_tuple (by decide +kernel) (WP.pa_consN (pe_callB cr_sorted (by rfl) B.b_sorted (by decide +kernel) (WP.pa_consN (pv 7) pa_nil)) pa_nil)) pa_nil)))))))
      (pss_one (ps_ret (pe_callTy WP.c_tupOf (by rfl) B.b_tuple (by decide +kernel) (WP.pa_consN (pv 6) pa_nil)))))))))), ?_⟩
    k_updF
    refine ⟨WP.sz (show 2 ≤ 1000000 by decide), fun T hT => ?_⟩
    obtain ⟨hd1, nT, s1, gT⟩ := hd.alloc (o := .lst [.int 8, .int 40]) hT
    k_updF
    refine ⟨d, ns, _, rfl, by decide, WP.bt8 (by decide), hd1, fun v H2 v0 v1 s2 hd2 => ?_⟩
    k_updF
    refine WP.intB ?_
    obtain ⟨m, hm, hma⟩ := WP.at_M (l := [(8 : Int), 40]) V.int (i := if decide (v = 0) = true then 1 else 0) (by split <;> decide) (by split <;> decide)
    refine WP.ixL (SqL.of (s2 _ _ nT gT)) hma ?_
    have hm : m = 8 ∨ m = 40 := by simpa using hm
    k_updF
    refine ⟨d, ns, _, rfl, by omega, WP.bt8 (by omega), hd2, fun c H3 c0 c1 s3 hd3 => ?_⟩
    have s3 := (s1.trans s2).trans s3
    clear s1 s2 hd1 hd2 gT hT
    obtain ⟨n, rfl⟩ : ∃ n : Nat, c = (n : Int) := ⟨c.toNat, by omega⟩
    have hn : n ≤ 40 := by omega
    clear c0 c1 hm hma
    k_updF
    refine ⟨_, rfl, by omega, by omega, fun D hD => lc_range (lo := 0) (n := _) (fun i Hx => WP.Sx d H Hx ∧ DS K Hx d ns ∧ ∃ hs : List Int, Hx D = some (.lst (hs.map V.int)) ∧ hs.length = i) ⟨s3.trans (.of (WP.same_new hD)), hd3.same (WP.same_new hD), [], upd_same, rfl⟩ ?_ ?_⟩
    · rintro i Hx hi ⟨s4, hd4, hs, hDx, hl⟩
      have nD := hd3.new hD
      k_updF
      refine ⟨rfl, ?_⟩
      refine WP.yes ?_
      k_updF
      refine ⟨d, ns, _, rfl, by decide, WP.bt8 (by decide), hd4, fun v H5 v0 v1 s5 hd5 => ?_⟩
      have hDy := s5 _ _ nD.1 hDx
      refine ⟨_, hDy, by rw [List.length_map, sizeLine_eq]; omega, sx_mut (s4.trans s5) (sx_free s3 nD.1 hD), hd5.mut nD, hs ++ [v], by rw [upd_same, List.map_append]; rfl, by rw [List.length_append, hl]; rfl⟩
    rintro H4 ⟨s4, hd4, hs, hDx, hl⟩
    rw [Int.toNat_natCast] at hl
    have nD := hd3.new hD
    clear s3 hd3 hD
    k_updF
    refine ⟨d, ns, _, rfl, by decide, WP.bt8 (by decide), hd4, fun up H5 up0 up1 s5 hd5 => ?_⟩
    have hDx := s5 _ _ nD.1 hDx
    k_updF
    refine ⟨d, ns, _, rfl, by decide, WP.bt8 (by decide), hd5, fun mo H6 mo0 mo1 s6 hd6 => ?_⟩
    have hDx := s6 _ _ nD.1 hDx
    have s6 := (s4.trans s5).trans s6
    clear s4 s5 hd4 hd5
    k_updF
    refine ⟨Nat.zero_le _, fun R hR => ?_⟩
    have nR := hd6.new hR
    have nDR : D ≠ R := ne_of_none hDx hR
    have hR0 := sx_free s6 nR.1 hR
    have hd7 := hd6.same (WP.same_new (o := .lst []) hR)
    have hDx : (upd H6 R (.lst [])) D = some (.lst (hs.map V.int)) := by rw [upd_ne nDR]; exact hDx
    have hRx : (upd H6 R (.lst [])) R = some (.lst (([] : List Addr).map V.ref)) := upd_same
    have s7 := s6.trans (.of (WP.same_new (o := .lst []) hR))
    generalize upd H6 R _ = H7 at hd7 hDx hRx s7
    clear s6 hd6 hR
    k_updF
    refine ⟨_, rfl, by omega, by omega, for_range (lo := 0) (n := _) (fun i σ' H' => WP.Sx d H H' ∧ DS K H' d ns ∧ H' D = some (.lst (hs.map V.int)) ∧ ∃ (g : MG.Gr) (as : List Addr) (z2 z7 z8 z9 : Option V), σ' = [some (.ref d), some (.int (n : Int)), z2, some (.ref D), some (.int up), some (.int (2 + mo)), some (.ref R), z7, z8, z9] ∧
        H' R = some (.lst (as.map V.ref)) ∧ as.length = g.length ∧ g.length = i ∧ (∀ (i : Nat) (a : Addr), as[i]? = some a → SqT K H' a (WP.iL (MG.ed g i))) ∧ (∀ v, (MG.ed g v).length ≤ 8) ∧ (∀ v, (MG.ed g v).Nodup) ∧ ∀ v w, w ∈ MG.ed g v → w < n)
      ⟨s7, hd7, hDx, [], [], none, none, none, none, rfl, hRx, rfl, rfl, (fun i a h => by simp at h), (fun v => Nat.zero_le _), (fun v => List.nodup_nil), fun v w h => by cases h⟩ ?_ ?_⟩
    · clear s7 hd7 hDx hRx
      rintro i σ' H8 hi ⟨s8, hd8, hDx, g, as, z2, z7, z8, z9, rfl, hRx, hal, hgl, hrow, h8, hnd, hlt⟩
      rw [Int.toNat_natCast] at hi
      k_updF
      refine ⟨Nat.zero_le _, fun W hW => ?_⟩
      have nW := hd8.new hW
      have nDW : D ≠ W := ne_of_none hDx hW
      have nRW : R ≠ W := ne_of_none hRx hW
      have hW0 := sx_free s8 nW.1 hW
      have hrow : ∀ (i : Nat) (a : Addr), as[i]? = some a → SqT K (upd H8 W (.lst [])) a (WP.iL (MG.ed g i)) := fun i a h => WP.sqt (WP.same_new hW) (hrow i a h)
      have hd9 := hd8.same (WP.same_new (o := .lst []) hW)
      have hDx : (upd H8 W (.lst [])) D = some (.lst (hs.map V.int)) := by rw [upd_ne nDW]; exact hDx
      have hRx : (upd H8 W (.lst [])) R = some (.lst (as.map V.ref)) := by rw [upd_ne nRW]; exact hRx
      have hWx : (upd H8 W (.lst [])) W = some (.lst (WP.iL [])) := upd_same
      have s9 := s8.trans (.of (WP.same_new (o := .lst []) hW))
      generalize upd H8 W _ = H9 at hd9 hDx hRx s9 hWx hrow
      k_updF
      refine ⟨d, ns, _, rfl, by omega, WP.bt8 (by omega), hd9, fun jn H10 jn0 jn1 s10 hd10 => ?_⟩
      k_updF
      have hDx10 := s10 _ _ nD.1 hDx
      have hRx10 := s10 _ _ nR.1 hRx
      have hWx10 := s10 _ _ nW.1 hWx
      have hrow10 : ∀ (i : Nat) (a : Addr), as[i]? = some a → SqT K H10 a (WP.iL (MG.ed g i)) := fun i a h => hd9.tup s10 (hrow i a h)
      refine ⟨_, rfl, by omega, by omega, for_range (lo := 0) (n := _) (fun j σ' H' => WP.Sx d H H' ∧ DS K H' d ns ∧ H' D = some (.lst (hs.map V.int)) ∧ H' R = some (.lst (as.map V.ref)) ∧ (∀ (i : Nat) (a : Addr), as[i]? = some a → SqT K H' a (WP.iL (MG.ed g i))) ∧
          ∃ (row : List Nat) (z8 z9 : Option V), σ' = [some (.ref d), some (.int (n : Int)), some (.int (0 + (i : Int))), some (.ref D), some (.int up), some (.int (2 + mo)), some (.ref R), some (.ref W), z8, z9] ∧ H' W = some (.lst (WP.iL row)) ∧ row.length ≤ j ∧ row.Nodup ∧ ∀ w ∈ row, w < n)
        ⟨s9.trans s10, hd10, hDx10, hRx10, hrow10, [], _, _, rfl, hWx10, Nat.le_refl _, List.nodup_nil, fun w h => by cases h⟩ ?_ ?_⟩
      · clear hDx10 hRx10 hWx10 hrow10 s10 hd10 hDx hRx hWx hrow s9 hd9
        rintro j σ' H11 hj ⟨s11, hd11, hDx, hRx, hrow, row, z8, z9, rfl, hWx, hrl, hwn, hrn⟩
        k_updF
        refine ⟨d, ns, _, rfl, by omega, WP.bt8 (by omega), hd11, fun u H12 u0 u1 s12 hd12 => ?_⟩
        obtain ⟨u, rfl⟩ : ∃ m : Nat, u = (m : Int) := ⟨u.toNat, by omega⟩
        have hDx := s12 _ _ nD.1 hDx
        have hRx := s12 _ _ nR.1 hRx
        have hWx := s12 _ _ nW.1 hWx
        have hrow : ∀ (i : Nat) (a : Addr), as[i]? = some a → SqT K H12 a (WP.iL (MG.ed g i)) := fun i a h => hd11.tup s12 (hrow i a h)
        have s12 := s11.trans s12
        clear s11 hd11
        have hadd : ∀ (i : Nat) (a : Addr), as[i]? = some a → SqT K (upd H12 W (.lst (WP.iL (row ++ [u])))) a (WP.iL (MG.ed g i)) := fun i a h => WP.sqtX (d := W) WP.Sx.upd hWx (hrow i a h)
        have hrn2 : ∀ w ∈ row ++ [u], w < n := fun w hw => by
          rcases List.mem_append.mp hw with e | e
          · exact hrn w e
          · rw [List.mem_singleton.mp e]; omega
        have hadn : u ∉ row → (row ++ [u]).Nodup := fun h => by
          rw [List.nodup_append]
          exact ⟨hwn, by simp, fun a ha b hb => by rw [List.mem_singleton.mp hb]; exact fun z : a = u => h (by rw [← z]; exact ha)⟩
        k_updF
        refine WP.notInNL (SqL.of hWx) ?_
        k_updF
        refine WP.brN (fun c => ?_) (fun c => ?_)
        · k_updF
          refine WP.br (fun c1 => ?_) (fun c1 => ?_)
          · refine WP.brT rfl ?_
            k_updF
            refine WP.tyL (SqL.of hWx) ?_
            k_updF
            refine WP.appL hWx (by rw [List.length_map, sizeLine_eq]; omega) ?_
            rw [WP.app_iL]
            exact ⟨sx_mut s12 hW0, hd12.mut nW, by rw [upd_ne nDW]; exact hDx, by rw [upd_ne nRW]; exact hRx, hadd, row ++ [u], _, _, rfl, upd_same, by rw [List.length_append]; show _ + 1 ≤ _; omega, hadn c, hrn2⟩
          · k_updF
            refine WP.ixL (SqL.of hDx) (WP.at_ints (by omega) (by omega)) ?_
            k_updF
            refine WP.ixL (SqL.of hDx) (WP.at_ints (by omega) (by omega)) ?_
            k_updF
            refine WP.br (fun c2 => ?_) (fun c2 => ?_)
            · k_updF
              refine WP.tyL (SqL.of hWx) ?_
              k_updF
              refine WP.appL hWx (by rw [List.length_map, sizeLine_eq]; omega) ?_
              rw [WP.app_iL]
              exact ⟨sx_mut s12 hW0, hd12.mut nW, by rw [upd_ne nDW]; exact hDx, by rw [upd_ne nRW]; exact hRx, hadd, row ++ [u], _, _, rfl, upd_same, by rw [List.length_append]; show _ + 1 ≤ _; omega, hadn c, hrn2⟩
            · k_updF
              exact ⟨s12, hd12, hDx, hRx, hrow, row, _, _, rfl, hWx, by omega, hwn, hrn⟩
        · refine WP.brF rfl ?_
          k_updF
          exact ⟨s12, hd12, hDx, hRx, hrow, row, _, _, rfl, hWx, by omega, hwn, hrn⟩
      clear hDx10 hRx10 hWx10 hrow10 s10 hd10 hDx hRx hWx hrow s9 hd9
      rintro σ' H11 ⟨s11, hd11, hDx, hRx, hrow, row, z8, z9, rfl, hWx, hrl, hwn, hrn⟩
      k_updF
      refine WP.tyL (SqL.of hRx) ?_
      k_updF
      refine WP.sortedN (SqL.of hWx) (by omega) (fun l' S hp hS => ?_)
      have nS := hd11.new hS
      k_updF
      refine WP.tupL (SqL.of upd_same) (fun t ht => ?_)
      have e12 : Same H11 (upd (upd H11 S (.lst (WP.iL l'))) t (.tup (WP.iL l'))) := (WP.same_new hS).trans (WP.same_new ht)
      have gt : (upd (upd H11 S (.lst (WP.iL l'))) t (.tup (WP.iL l'))) t = some (.tup (WP.iL l')) := upd_same
      generalize upd (upd H11 S (.lst (WP.iL l'))) t _ = H12 at e12 gt ⊢
      have hd12 := hd11.same e12
      have hR12 := e12 _ _ hRx
      k_updF
      refine WP.appL hR12 (by rw [List.length_map, sizeLine_eq]; omega) ?_
      have hpl := hp.length_eq
      have nRt : t ≠ R := fun z => by rw [z, hR12] at gt; cases gt
      refine ⟨sx_mut (s11.trans (.of e12)) hR0, hd12.mut nR, by rw [upd_ne nDR]; exact e12 _ _ hDx, g ++ [l'], as ++ [t], _, _, _, _, rfl, by rw [upd_same, List.map_append]; rfl, by rw [List.length_append, List.length_append, hal]; rfl, by rw [List.length_append, hgl]; rfl, fun x a h => ?_, fun v => ?_, fun v => ?_, fun v w h => ?_⟩
      · rw [ed_snoc]
        rcases Nat.lt_or_ge x as.length with hx | hx
        · rw [List.getElem?_append_left hx] at h
          rw [if_pos (by omega)]
          exact WP.sqtX (d := R) WP.Sx.upd hR12 (WP.sqt e12 (hrow x a h))
        · rw [List.getElem?_append_right hx] at h
          have hx0 : x - as.length = 0 := by
            have := (List.getElem?_eq_some_iff.mp h).1
            simp at this
            omega
          rw [hx0] at h
          have e : t = a := Option.some.inj h
          subst e
          rw [if_neg (by omega), if_pos (by omega)]
          exact SqT.of (by rw [upd_ne nRt]; exact gt)
      · rw [ed_snoc]
        split
        · exact h8 v
        · split
          · omega
          · exact Nat.zero_le _
      · rw [ed_snoc]
        split
        · exact hnd v
        · split
          · exact (hp.nodup_iff).mpr hwn
          · exact List.nodup_nil
      · rw [ed_snoc] at h
        split at h
        · exact hlt v w h
        · split at h
          · exact hrn w ((hp.mem_iff).mp h)
          · cases h
    rintro σ' H8 ⟨s8, hd8, hDx, g, as, z2, z7, z8, z9, rfl, hRx, hal, hgl, hrow, h8, hnd, hlt⟩
    rw [Int.toNat_natCast] at hgl
    k_updF
    refine WP.tupL (SqL.of hRx) (fun p hp => ?_)
    obtain ⟨hd9, np, s9, gp⟩ := hd8.alloc (o := .tup (as.map V.ref)) hp
    exact k p g _ ⟨as, SqT.of gp, hal, fun i a h => WP.sqt (WP.same_new hp) (hrow i a h)⟩ ⟨fun v w h => by rw [hgl]; exact hlt v w h, by omega, fun v => by have := h8 v; omega⟩ (by omega) h8 hnd (s8.trans s9) hd9
end
abbrev s__turned : Stmt := top 4
abbrev N__turned : List Str := ["graph", "back", "vertex", "others", "other", "_"]
theorem sc__turned : FnScope N__turned ["graph"] (defScope s__turned) := ⟨rfl, rfl, rfl, by decide +kernel, rfl, by decide +kernel, by decide +kernel⟩
/-- the rows of the turned graph -/
structure Bk (g : MG.Gr) (b : Nat → List Nat) : Prop where
  m : ∀ j u, u ∈ b j ↔ u < g.length ∧ j ∈ MG.ed g u
  nd : ∀ j, (b j).Nodup
def sp__turned (K : PySem.W.Frag) (mg : WP.MG) : Sp := fun vs H Q _ => ∃ (p : Addr) (g : MG.Gr), vs = [.ref p] ∧ GrAt K H p g ∧ GOk g ∧ (∀ v, (MG.ed g v).Nodup) ∧ ∀ (B : Addr) (as : List Addr) (b : Nat → List Nat) (H' : Hp), H B = none → (∀ a ∈ as, H a = none) → Same H H' → H' B = some (.lst (as.map V.ref)) → as.length = g.length →
  (∀ (j : Nat) (a : Addr), as[j]? = some a → H' a = some (.lst (WP.iL (b j)))) → Bk g b → Q (.ref B) H'
section
variable {P : Program} {w : World} {K : PySem.W.Frag} {mg : Str → Option Value} {base : Heap}
theorem ok__turned {f : Addr} {fd : FuncData} (F : Fun K "_turned" "_turned" s__turned f fd) (B : Blt w K mg)  : FnOk P w K mg base CX0 1 f fd ["graph"] (sp__turned K mg) := by
  refine F.ok sc__turned (fun vs H Q E h => ?_) (fun cdv A outer s H vs Q E hr h => ?_)
  · first | (obtain ⟨_, rfl, _⟩ := h; rfl) | (obtain ⟨_, _, rfl, _⟩ := h; rfl) | (obtain ⟨_, _, _, rfl, _⟩ := h; rfl) | (obtain ⟨_, _, _, _, rfl, _⟩ := h; rfl) | (obtain ⟨_, _, _, _, _, rfl, _⟩ := h; rfl) | (obtain ⟨_, _, _, _, _, _, rfl, _⟩ := h; rfl) | (obtain ⟨_, _, _, _, _, _, _, rfl, _⟩ := h; rfl) | (obtain ⟨_, _, _, _, _, _, _, _, rfl, _⟩ := h; rfl) | (obtain ⟨rfl, _⟩ := h; rfl)
  · obtain ⟨p, g, rfl, hg, ho, hnd, k⟩ := h
    refine ⟨_, (pss_cons (ps_setLc (i := 1) (own := [("_", 5)]) (g := gName 5) (tt := tYes) rfl sc__turned.nd rfl rfl (sw_true rfl rfl rfl (by decide +kernel)) (pi_tup (pv 0)) (blkOk_by (own := [("_", 5)]) (N := N__turned) (sc := defScope s__turned) (by decide +kernel)) (fun _ _ _ _ _ => pg_name (i := 5) sc__turned.nd rfl (Or.inl rfl)) (fun _ _ _ _ _ => pts_nil) (fun _ _ _ _ _ => (pe_lst pa_nil)))
      (pss_cons (ps_for PassesOwn.never rfl (WET.pi_enumT (by rfl) B.b_enumerate (WP.pa_consN (pv 0) pa_nil)) (pg_tup (by rfl) (pgs_cons (pg_name (i := 2) sc__turned.nd rfl (Or.inl rfl)) (pgs_cons (pg_name (i := 3) sc__turned.nd rfl (Or.inl rfl)) pgs_nil))) (pss_one (ps_for PassesOwn.never rfl (pi_tup (pv 3)) (pg_name (i := 4) sc__turned.nd rfl (Or.inl rfl)) (pss_one (ps_expr (pe_bm PySem.F.plainAttrs_list PySem.F.slot_list_append PySem.F.type_list_append mt_append (pe_ix ix_list (pv 1) (pv 4) (fun _ _ => rfl)) (WP.pa_consN (pv 2) pa_nil)))))))
      (pss_one (ps_ret (pv 1))))), ?_⟩
    obtain ⟨ps, hx, hxl, hrow⟩ := _root_.id hg
    have hn := ho.n
    k_updF
    refine ⟨p, rfl, ⟨_, hx⟩, fun D hD => lc_tup (K := K) (a := p) (xs := ps.map V.ref) (fun i Hx => Same H Hx ∧ ∃ as : List Addr, Hx D = some (.lst (as.map V.ref)) ∧ as.length = i ∧ as.Nodup ∧ ∀ a ∈ as, H a = none ∧ Hx a = some (.lst [])) ⟨WP.same_new hD, [], upd_same, rfl, List.nodup_nil, fun a h => by cases h⟩ (fun i Hx _ h => WP.sqt h.1 hx) ?_ ?_⟩
    · rintro i x Hx hix ⟨e1, as, hDx, hal, hand, has⟩
      have hi := (List.getElem?_eq_some_iff.mp hix).1
      rw [List.length_map] at hi
      k_updF
      refine ⟨rfl, ?_⟩
      refine WP.yes ?_
      k_updF
      refine ⟨Nat.zero_le _, fun a ha => ?_⟩
      have nDa : D ≠ a := ne_of_none hDx ha
      have haH : H a = none := e1.free ha
      have naS : a ∉ as := fun z => by have := (has a z).2; rw [ha] at this; cases this
      have hDa : ∀ b ∈ as, b ≠ D := fun b hb z => by have := (has b hb).2; rw [z, hDx] at this; cases as with
        | nil => cases hb
        | cons c r => cases this
      refine ⟨_, by rw [upd_ne nDa]; exact hDx, by rw [List.length_map, sizeLine_eq]; omega, WP.same_mut (e1.trans (WP.same_new ha)) hD, as ++ [a], by rw [upd_same, List.map_append]; rfl, by rw [List.length_append, hal]; rfl, ?_, fun b hb => ?_⟩
      · rw [List.nodup_append]
        exact ⟨hand, by simp, fun x hx y hy => by rw [List.mem_singleton.mp hy]; exact fun z : x = a => naS (by rw [← z]; exact hx)⟩
      · rcases List.mem_append.mp hb with z | z
        · obtain ⟨h1, h2⟩ := has b z
          refine ⟨h1, ?_⟩
          rw [upd_ne (hDa b z), upd_ne (fun y : b = a => naS (by rw [← y]; exact z))]
          exact h2
        · rw [List.mem_singleton.mp z]
          exact ⟨haH, by rw [upd_ne (Ne.symm nDa), upd_same]⟩
    rintro H1 ⟨e1, as, hDx, hal, hand, has⟩
    rw [List.length_map, hxl] at hal
    have hDH : H D = none := hD
    have hasD : ∀ b ∈ as, b ≠ D := fun b hb z => by have := (has b hb).2; rw [z, hDx] at this; cases as with
      | nil => cases hb
      | cons c r => cases this
    k_updF
    refine ⟨p, _, rfl, WP.sqt e1 hx, WET.for_enumT (K := K) (a := p) (ys := ps.map V.ref) (fun i σ' H' => Same H H' ∧ H' D = some (.lst (as.map V.ref)) ∧ ∃ (b : Nat → List Nat) (z2 z3 z4 z5 : Option V), σ' = [some (.ref p), some (.ref D), z2, z3, z4, z5] ∧ (∀ (j : Nat) (a : Addr), as[j]? = some a → H' a = some (.lst (WP.iL (b j)))) ∧ (∀ j u, u ∈ b j ↔ u < i ∧ j ∈ MG.ed g u) ∧ (∀ j, (b j).Nodup))
      ⟨e1, hDx, fun _ => [], _, _, _, _, rfl, fun j a h => (has a (List.mem_of_getElem? h)).2, (fun j u => ⟨fun h => (by cases h), fun h => absurd h.1 (Nat.not_lt_zero _)⟩), fun j => List.nodup_nil⟩ (fun i σ' H' _ h => WP.sqt h.1 hx) ?_ ?_⟩
    · clear e1 hDx
      rintro i y σ' H2 T hiy hT ⟨e2, hDx, b, z2, z3, z4, z5, rfl, hb, hm, hbn⟩
      have hi : i < g.length := by have := (List.getElem?_eq_some_iff.mp hiy).1; rw [List.length_map] at this; omega
      rw [List.getElem?_map, List.getElem?_eq_getElem (show i < ps.length by omega)] at hiy
      have hia := hrow i _ (List.getElem?_eq_getElem (show i < ps.length by omega))
      cases hiy
      generalize ps[i] = a at hia ⊢
      have eT : Same H2 (upd H2 T (.tup [.int ((i : Nat) : Int), .ref a])) := WP.same_new hT
      refine WP.unT (SqT.of upd_same) rfl ?_
      generalize upd H2 T _ = H3 at eT ⊢
      have hDx := eT _ _ hDx
      have hb : ∀ (j : Nat) (a : Addr), as[j]? = some a → H3 a = some (.lst (WP.iL (b j))) := fun j a h => eT _ _ (hb j a h)
      have e3 := e2.trans eT
      have hia := WP.sqt e3 hia
      clear e2 eT hT
      k_updF
      refine ⟨a, rfl, ⟨_, hia⟩, for_tup (K := K) (a := a) (xs := WP.iL (MG.ed g i)) (fun l σ' H' => Same H H' ∧ SqT K H' a (WP.iL (MG.ed g i)) ∧ H' D = some (.lst (as.map V.ref)) ∧ ∃ (b : Nat → List Nat) (z4 z5 : Option V), σ' = [some (.ref p), some (.ref D), some (.int (i : Int)), some (.ref a), z4, z5] ∧ (∀ (j : Nat) (a : Addr), as[j]? = some a → H' a = some (.lst (WP.iL (b j)))) ∧ (∀ j u, u ∈ b j ↔ (u < i ∧ j ∈ MG.ed g u) ∨ (u = i ∧ j ∈ (MG.ed g i).take l)) ∧ (∀ j, (b j).Nodup))
        ⟨e3, hia, hDx, b, _, _, rfl, hb, fun j u => by rw [hm j u, List.take_zero]; simp, hbn⟩ (fun l σ' H' _ h => h.2.1) ?_ ?_⟩
      · clear e3 hia hDx hb hm hbn
        rintro l x σ' H4 hlx ⟨e4, hia, hDx, b, z4, z5, rfl, hb, hm, hbn⟩
        rw [List.getElem?_map] at hlx
        obtain ⟨w, hw, rfl⟩ : ∃ w : Nat, (MG.ed g i)[l]? = some w ∧ V.int (w : Int) = x := by
          cases e : (MG.ed g i)[l]? with
          | none => rw [e] at hlx; cases hlx
          | some w => rw [e] at hlx; exact ⟨w, rfl, Option.some.inj hlx⟩
        have hwn := ho.ok i w (List.mem_of_getElem? hw)
        have hll := (List.getElem?_eq_some_iff.mp hw).1
        have et : (MG.ed g i).take (l + 1) = (MG.ed g i).take l ++ [w] := by rw [List.take_succ, hw]; rfl
        have hwas : as[w]? = some as[w] := List.getElem?_eq_getElem (by omega)
        have hAx := hb w _ hwas
        have hAm : as[w] ∈ as := List.getElem_mem _
        have inj : ∀ (j : Nat) (c : Addr), as[j]? = some c → c = as[w] → j = w := fun j c h e => by
          obtain ⟨hj, he⟩ := List.getElem?_eq_some_iff.mp h
          exact (List.getElem_inj (h₀ := hj) (h₁ := by omega) hand).mp (he.trans e)
        have nA := hasD _ hAm
        have aH := (has _ hAm).1
        have nw : w ∉ (MG.ed g i).take l := fun z => by
          obtain ⟨q, hq, hqe⟩ := List.getElem_of_mem z
          rw [List.length_take] at hq
          rw [List.getElem_take] at hqe
          have := (List.getElem_inj (h₀ := by omega) (h₁ := hll) (hnd i)).mp (hqe.trans (List.getElem?_eq_some_iff.mp hw).2.symm)
          omega
        have hbl : (b w).length ≤ 1000 := by
          have : (b w).length ≤ g.length := MG.nodup_len (hbn w) fun u hu => by
            rcases (hm w u).mp hu with z | z <;> omega
          omega
        have hat : atI (as.map V.ref) (w : Int) = some (.ref as[w]) := atI_nat (by rw [List.getElem?_map, hwas]; rfl)
        have hdup : (b w ++ [i]).Nodup := by
          rw [List.nodup_append]
          refine ⟨hbn w, by simp, fun x hx y hy => ?_⟩
          rw [List.mem_singleton.mp hy]
          intro z
          subst z
          rcases (hm w x).mp hx with z | z
          · omega
          · exact nw z.2
        generalize as[w] = c at *
        k_updF
        refine WP.ixL (SqL.of hDx) hat ?_
        refine WP.tyL (SqL.of hAx) ?_
        k_updF
        refine WP.appL hAx (by rw [List.length_map, sizeLine_eq]; omega) ?_
        rw [WP.app_iL]
        refine ⟨WP.same_mut e4 aH, WP.sqtX (d := c) WP.Sx.upd hAx hia, by rw [upd_ne (Ne.symm nA)]; exact hDx, fun j => if j = w then b w ++ [i] else b j, _, _, rfl, fun j a' h => ?_, fun j u => ?_, fun j => ?_⟩
        · dsimp only
          by_cases e : a' = c
          · rw [if_pos (inj j a' h e), e, upd_same]
          · rw [if_neg (fun z => e (by rw [z, hwas] at h; exact (Option.some.inj h).symm)), upd_ne e]
            exact hb j a' h
        · dsimp only
          rw [et]
          by_cases e : j = w
          · subst e
            rw [if_pos rfl, List.mem_append, hm j u, List.mem_singleton, List.mem_append]
            refine ⟨fun h => ?_, fun h => ?_⟩
            · rcases h with (h | h) | h
              · exact .inl h
              · exact .inr ⟨h.1, .inl h.2⟩
              · exact .inr ⟨h, .inr List.mem_cons_self⟩
            · rcases h with h | ⟨h, _⟩
              · exact .inl (.inl h)
              · exact .inr h
          · rw [if_neg e, hm j u, List.mem_append]
            refine ⟨fun h => h.imp id fun h => ⟨h.1, .inl h.2⟩, fun h => h.imp id fun h => ⟨h.1, h.2.elim id fun z => absurd (List.mem_singleton.mp z) e⟩⟩
        · dsimp only
          split
          · exact hdup
          · exact hbn j
      rintro σ' H4 ⟨e4, hia, hDx, b, z4, z5, rfl, hb, hm, hbn⟩
      rw [List.length_map, List.take_length] at hm
      refine ⟨e4, hDx, b, _, _, _, _, rfl, hb, fun j u => ?_, hbn⟩
      rw [hm j u]
      refine ⟨fun h => ?_, fun ⟨h1, h2⟩ => ?_⟩
      · rcases h with h | ⟨h1, h2⟩
        · exact ⟨by omega, h.2⟩
        · subst h1; exact ⟨Nat.lt_succ_self _, h2⟩
      · rcases Nat.lt_succ_iff_lt_or_eq.mp h1 with z | z
        · exact .inl ⟨z, h2⟩
        · subst z; exact .inr ⟨rfl, h2⟩
    rintro σ' H2 ⟨e2, hDx, b, z2, z3, z4, z5, rfl, hb, hm, hbn⟩
    rw [List.length_map, hxl] at hm
    k_updF
    exact k D as b H2 hDH (fun a h => (has a h).1) e2 hDx hal hb ⟨hm, hbn⟩
end
abbrev s__finish_order : Stmt := top 2
abbrev N__finish_order : List Str := ["graph", "order", "is_seen", "followed", "start", "path", "at", "behind"]
theorem sc__finish_order : FnScope N__finish_order ["graph"] (defScope s__finish_order) := ⟨rfl, rfl, rfl, by decide +kernel, rfl, by decide +kernel, by decide +kernel⟩
def sp__finish_order (K : PySem.W.Frag) (mg : WP.MG) : Sp := fun vs H Q _ => ∃ (p : Addr) (g : MG.Gr), vs = [.ref p] ∧ GrAt K H p g ∧ GOk g ∧ ∀ (o : List Nat) (l : Addr) (H' : Hp), MG.Fo g o → H l = none → Same H H' → H' l = some (.lst (WP.iL o)) → Q (.ref l) H'
section
variable {P : Program} {w : World} {K : PySem.W.Frag} {mg : Str → Option Value} {base : Heap}
theorem ok__finish_order {f : Addr} {fd : FuncData} (F : Fun K "_finish_order" "_finish_order" s__finish_order f fd) (B : Blt w K mg)  : FnOk P w K mg base CX0 1 f fd ["graph"] (sp__finish_order K mg) := by
  refine F.ok sc__finish_order (fun vs H Q E h => ?_) (fun cdv A outer s H vs Q E hr h => ?_)
  · first | (obtain ⟨_, rfl, _⟩ := h; rfl) | (obtain ⟨_, _, rfl, _⟩ := h; rfl) | (obtain ⟨_, _, _, rfl, _⟩ := h; rfl) | (obtain ⟨_, _, _, _, rfl, _⟩ := h; rfl) | (obtain ⟨_, _, _, _, _, rfl, _⟩ := h; rfl) | (obtain ⟨_, _, _, _, _, _, rfl, _⟩ := h; rfl) | (obtain ⟨_, _, _, _, _, _, _, rfl, _⟩ := h; rfl) | (obtain ⟨_, _, _, _, _, _, _, _, rfl, _⟩ := h; rfl) | (obtain ⟨rfl, _⟩ := h; rfl)
  · obtain ⟨p, g, rfl, hg, ho, k⟩ := h
    refine ⟨_, (pss_cons (ps_set (i := 1) sc__finish_order.nd rfl (Or.inl rfl) (pe_lst pa_nil))
      (pss_cons (ps_set (i := 2) sc__finish_order.nd rfl (Or.inl rfl) (pe_op op_rep (pe_lst (WP.pa_consN pe_bl pa_nil)) (pe_callB WP.c_len (by rfl) B.b_len (by decide +kernel) (WP.pa_consN (pv 0) pa_nil))))
      (pss_cons (ps_set (i := 3) sc__finish_order.nd rfl (Or.inl rfl) (pe_op op_rep (pe_lst (WP.pa_consN pe_int pa_nil)) (pe_callB WP.c_len (by rfl) B.b_len (by decide +kernel) (WP.pa_consN (pv 0) pa_nil))))
      (pss_cons (ps_for PassesOwn.never rfl (pi_range1 rfl B.b_range (WP.pa_consN (pe_callB WP.c_len (by rfl) B.b_len (by decide +kernel) (WP.pa_consN (pv 0) pa_nil)) pa_nil)) (pg_name (i := 4) sc__finish_order.nd rfl (Or.inl rfl)) (Evl.pss_cut (ps_set (i := 5) sc__finish_order.nd rfl (Or.inl rfl) (pe_ifExp (pt_val (pe_ix ix_list (pv 2) (pv 4) (fun _ _ => rfl))) (pe_lst pa_nil) (pe_lst (WP.pa_consN (pv 4) pa_nil))))
      (pss_cons (ps_asg pe_bl (pg_sub (pv 2) (pv 4) set_list))
      (pss_one (ps_while PassesOwn.never (pt_truth (pv 5) (by intro _; rfl)) (pss_cons (ps_set (i := 6) sc__finish_order.nd rfl (Or.inl rfl) (pe_ix ix_list (pv 5) (pe_un un_neg pe_int) (fun _ _ => rfl)))
      (pss_cons (ps_if (pt_cmpR op_eq (pe_ix ix_list (pv 3) (pv 6) (fun _ _ => rfl)) (pe_callB WP.c_len (by rfl) B.b_len (by decide +kernel) (WP.pa_consN (pe_ix ix_tup (pv 0) (pv 6) (fun _ _ => rfl)) pa_nil)) (nomark _)) (pss_cons (ps_expr (pe_bm PySem.F.plainAttrs_list PySem.F.slot_list_append PySem.F.type_list_append mt_append (pv 1) (WP.pa_consN (pe_bm0 PySem.F.plainAttrs_list PySem.F.slot_list_pop PySem.F.type_list_pop mt_pop (pv 5)) pa_nil)))
      (pss_one ps_continue)) pss_nil)
      (pss_cons (ps_set (i := 7) sc__finish_order.nd rfl (Or.inl rfl) (pe_ix ix_tup (pe_ix ix_tup (pv 0) (pv 6) (fun _ _ => rfl)) (pe_ix ix_list (pv 3) (pv 6) (fun _ _ => rfl)) (fun _ _ => rfl)))
      (pss_cons (ps_asg (pe_op op_add (pe_ix ix_list (pv 3) (pv 6) (fun _ _ => rfl)) pe_int) (pg_sub (pv 3) (pv 6) set_list))
      (pss_one (ps_if (pt_not (pt_val (pe_ix ix_list (pv 2) (pv 7) (fun _ _ => rfl)))) (pss_cons (ps_asg pe_bl (pg_sub (pv 2) (pv 7) set_list))
      (pss_one (ps_expr (pe_bm PySem.F.plainAttrs_list PySem.F.slot_list_append PySem.F.type_list_append mt_append (pv 5) (WP.pa_consN (pv 7) pa_nil))))) pss_nil)))))))))))
      (pss_one (ps_ret (pv 1))))))), ?_⟩
    obtain ⟨xs, hx, hxl⟩ := hg.top
    have hn := ho.n
    k_updF
    refine ⟨Nat.zero_le _, fun O hO => ?_⟩
    have e1 : Same H (upd H O (.lst [])) := WP.same_new hO
    have o1 : (upd H O (.lst [])) O = some (.lst []) := upd_same
    generalize upd H O _ = H1 at e1 o1 ⊢
    k_updF
    refine ⟨WP.sz (show 1 ≤ 1000000 by decide), fun A1 hA1 => ?_⟩
    have e2 : Same H1 (upd H1 A1 (.lst [.bl false])) := WP.same_new hA1
    have a2 : (upd H1 A1 (.lst [.bl false])) A1 = some (.lst [.bl false]) := upd_same
    generalize upd H1 A1 _ = H2 at e2 a2 ⊢
    k_updF
    refine WP.lenT (WP.sqt (e1.trans e2) hx) ?_
    refine WP.rep1 a2 (by omega) (by omega) (fun S hS => ?_)
    rw [Int.toNat_natCast, hxl]
    have e3 : Same H2 (upd H2 S (.lst (List.replicate g.length (.bl false)))) := WP.same_new hS
    have s3 : (upd H2 S (.lst (List.replicate g.length (.bl false)))) S = some (.lst (List.replicate g.length (.bl false))) := upd_same
    have nOS : O ≠ S := ne_of_none (e2 _ _ o1) hS
    generalize upd H2 S _ = H3 at e3 s3 ⊢
    k_updF
    refine ⟨WP.sz (show 1 ≤ 1000000 by decide), fun A2 hA2 => ?_⟩
    have e4 : Same H3 (upd H3 A2 (.lst [.int 0])) := WP.same_new hA2
    have a4 : (upd H3 A2 (.lst [.int 0])) A2 = some (.lst [.int 0]) := upd_same
    generalize upd H3 A2 _ = H4 at e4 a4 ⊢
    k_updF
    refine WP.lenT (WP.sqt (((e1.trans e2).trans e3).trans e4) hx) ?_
    refine WP.rep1 a4 (by omega) (by omega) (fun F hF => ?_)
    rw [Int.toNat_natCast, hxl]
    have e5 : Same H4 (upd H4 F (.lst (List.replicate g.length (.int 0)))) := WP.same_new hF
    have f5 : (upd H4 F (.lst (List.replicate g.length (.int 0)))) F = some (.lst (List.replicate g.length (.int 0))) := upd_same
    have nOF : O ≠ F := ne_of_none ((e2.trans (e3.trans e4)) _ _ o1) hF
    have nSF : S ≠ F := ne_of_none (e4 _ _ s3) hF
    generalize upd H4 F _ = H5 at e5 f5 ⊢
    have o5 : H5 O = some (.lst (WP.iL [])) := (e2.trans (e3.trans (e4.trans e5))) _ _ o1
    have s5 : H5 S = some (.lst (WP.bL (List.replicate g.length false))) := by rw [(e4.trans e5) _ _ s3]; unfold WP.bL; rw [List.map_replicate]
    have f5 : H5 F = some (.lst (WP.iL (List.replicate g.length 0))) := by rw [f5]; unfold WP.iL; rw [List.map_replicate]; rfl
    have e15 : Same H H5 := e1.trans (e2.trans (e3.trans (e4.trans e5)))
    have hS0 : H S = none := (e1.trans e2).free hS
    have hF0 : H F = none := (e1.trans (e2.trans (e3.trans e4))).free hF
    clear e1 e2 e3 e4 e5 o1 a2 s3 a4 hA1 hA2 hS hF
    k_updF
    refine WP.lenT (WP.sqt e15 hx) ?_
    k_updF
    refine ⟨_, rfl, by omega, by omega, for_range (lo := 0) (n := _) (fun i σ' H' => ∃ (o : List Nat) (sl : List Bool) (fl : List Nat) (z4 z5 z6 z7 : Option V), σ' = [some (.ref p), some (.ref O), some (.ref S), some (.ref F), z4, z5, z6, z7] ∧ Same H H' ∧
        H' O = some (.lst (WP.iL o)) ∧ H' S = some (.lst (WP.bL sl)) ∧ H' F = some (.lst (WP.iL fl)) ∧ MG.Dfs g o [] sl fl ∧ ∀ v < i, sl.getD v false = true)
      ⟨[], _, _, none, none, none, none, rfl, e15, o5, s5, f5, .init g, fun v h => absurd h (Nat.not_lt_zero _)⟩ ?_ ?_⟩
    · clear o5 s5 f5 e15
      rintro i σ' H' hi ⟨o, sl, fl, z4, z5, z6, z7, rfl, eS, hOx, hSx, hFx, D, seen⟩
      rw [Int.toNat_natCast, hxl] at hi
      rw [Int.zero_add]
      k_updF
      refine WP.cut (fun σ' H'' => ∃ (P : Addr) (q : List Nat), σ' = [some (.ref p), some (.ref O), some (.ref S), some (.ref F), some (.int (i : Int)), some (.ref P), z6, z7] ∧ Same H' H'' ∧ H' P = none ∧ H'' P = some (.lst (WP.iL q.reverse)) ∧ MG.Dfs g o q (sl.set i true) fl) ?_ ?_
      · k_updF
        refine WP.ixL (SqL.of hSx) (WP.at_bL (by rw [D.sl]; exact hi)) ?_
        k_updF
        refine WP.brB (fun c => ?_) (fun c => ?_)
        · k_updF
          refine ⟨Nat.zero_le _, fun P hP => ?_⟩
          k_updF
          exact ⟨P, [], rfl, WP.same_new hP, hP, upd_same, by rw [MG.set_self c]; exact D⟩
        · k_updF
          refine ⟨WP.sz (show 1 ≤ 1000000 by decide), fun P hP => ?_⟩
          k_updF
          exact ⟨P, [i], rfl, WP.same_new hP, hP, upd_same, D.push hi c (fun b h => by simp at h)⟩
      rintro σ' H'' ⟨P, q, rfl, eP, hP0, hPx, D⟩
      have hOx := eP _ _ hOx
      have hSx := eP _ _ hSx
      have hFx := eP _ _ hFx
      have hPn : H P = none := eS.free hP0
      have nOP : O ≠ P := ne_of_none (by assumption) hP0
      have nSP : S ≠ P := ne_of_none (by assumption) hP0
      have nFP : F ≠ P := ne_of_none (by assumption) hP0
      have eS := eS.trans eP
      have sll : (sl.set i true).length = g.length := D.sl
      rw [List.length_set] at sll
      k_updF
      refine WP.setN hSx (by rw [List.length_map, sll]; exact hi) ?_
      rw [WP.set_bL]
      have eS : Same H (upd H'' S (.lst (WP.bL (sl.set i true)))) := WP.same_mut eS hS0
      have hOx : (upd H'' S (.lst (WP.bL (sl.set i true)))) O = some (.lst (WP.iL o)) := by rw [upd_ne nOS]; exact hOx
      have hFx : (upd H'' S (.lst (WP.bL (sl.set i true)))) F = some (.lst (WP.iL fl)) := by rw [upd_ne (Ne.symm nSF)]; exact hFx
      have hPx : (upd H'' S (.lst (WP.bL (sl.set i true)))) P = some (.lst (WP.iL q.reverse)) := by rw [upd_ne (Ne.symm nSP)]; exact hPx
      have hSx : (upd H'' S (.lst (WP.bL (sl.set i true)))) S = some (.lst (WP.bL (sl.set i true))) := upd_same
      generalize upd H'' S _ = G at eS hOx hFx hPx hSx ⊢
      have seen : ∀ v < i + 1, (sl.set i true).getD v false = true := fun v hv => by
        rw [MG.getD_set _ _ _ _ _ (by omega)]
        by_cases e : i = v
        · rw [if_pos e]
        · rw [if_neg e]; exact seen v (by omega)
      generalize sl.set i true = sl at *
      clear eP hP0
      refine ⟨fun m σ' H3 => ∃ (o q : List Nat) (sl : List Bool) (fl : List Nat) (z6 z7 : Option V), σ' = [some (.ref p), some (.ref O), some (.ref S), some (.ref F), some (.int (i : Int)), some (.ref P), z6, z7] ∧ Same H H3 ∧
        H3 O = some (.lst (WP.iL o)) ∧ H3 S = some (.lst (WP.bL sl)) ∧ H3 F = some (.lst (WP.iL fl)) ∧ H3 P = some (.lst (WP.iL q.reverse)) ∧ MG.Dfs g o q sl fl ∧ (∀ v < i + 1, sl.getD v false = true) ∧ m = 2 * (MG.tot g - fl.sum) + q.length,
        ⟨_, o, q, sl, fl, z6, z7, rfl, eS, hOx, hSx, hFx, hPx, D, seen, rfl⟩, ?_⟩
      clear eS hOx hSx hFx hPx D seen
      rintro m σ' H3 ⟨o, q, sl, fl, z6, z7, rfl, eS, hOx, hSx, hFx, hPx, D, seen, rfl⟩
      k_updF
      refine ⟨_, WP.trL (SqL.of hPx), ?_⟩
      cases q with
      | nil =>
        refine WP.brF rfl ?_
        exact ⟨o, sl, fl, _, _, _, _, rfl, eS, hOx, hSx, hFx, D, seen⟩
      | cons v q =>
        refine WP.brT WP.tr_rev ?_
        refine ⟨fun σ' H4 => ∃ m', m' < 2 * (MG.tot g - fl.sum) + (v :: q).length ∧ ∃ (o q : List Nat) (sl : List Bool) (fl : List Nat) (z6 z7 : Option V), σ' = [some (.ref p), some (.ref O), some (.ref S), some (.ref F), some (.int (i : Int)), some (.ref P), z6, z7] ∧ Same H H4 ∧
          H4 O = some (.lst (WP.iL o)) ∧ H4 S = some (.lst (WP.bL sl)) ∧ H4 F = some (.lst (WP.iL fl)) ∧ H4 P = some (.lst (WP.iL q.reverse)) ∧ MG.Dfs g o q sl fl ∧ (∀ v < i + 1, sl.getD v false = true) ∧ m' = 2 * (MG.tot g - fl.sum) + q.length, fun _ _ x => x, ?_⟩
        have hv : v < g.length := D.lt v (List.mem_append.mpr (.inr List.mem_cons_self))
        obtain ⟨a, ys, hy, hyl, hya, ha⟩ := (hg.same eS).row hv
        have dl := D.len
        rw [List.length_cons] at dl
        k_updF
        refine WP.ixL (SqL.of hPx) WP.at_rev ?_
        k_updF
        refine WP.ixL (SqL.of hFx) (WP.at_iL (by rw [D.fll]; exact hv)) ?_
        k_updF
        refine WP.ixT hy hya ?_
        k_updF
        refine WP.lenT ha ?_
        rw [List.length_map]
        k_updF
        refine WP.br (fun c => ?_) (fun c => ?_)
        · have c : fl.getD v 0 = (MG.ed g v).length := Int.ofNat.inj c
          k_updF
          refine WP.tyL (SqL.of hOx) ?_
          k_updF
          refine ⟨.inl ⟨rfl, _, SqL.of hPx⟩, ?_⟩
          refine WP.popRev hPx ?_
          k_updF
          refine WP.appL (xs := WP.iL o) (by rw [upd_ne nOP]; exact hOx) (by rw [List.length_map, sizeLine_eq]; omega) ?_
          rw [WP.app_iL]
          k_updF
          refine ⟨2 * (MG.tot g - fl.sum) + q.length, by rw [List.length_cons]; omega, o ++ [v], q, sl, fl, _, _, rfl, WP.same_mut (WP.same_mut eS hPn) hO, upd_same, ?_, ?_, ?_, D.finish c, seen, rfl⟩
          · rw [upd_ne (Ne.symm nOS), upd_ne nSP]; exact hSx
          · rw [upd_ne (Ne.symm nOF), upd_ne nFP]; exact hFx
          · rw [upd_ne (Ne.symm nOP), upd_same]
        · have cl : fl.getD v 0 < (MG.ed g v).length := Nat.lt_of_le_of_ne (D.fle v) fun e => c (congrArg Nat.cast e)
          have hw : (MG.ed g v)[fl.getD v 0]? = some ((MG.ed g v).getD (fl.getD v 0) 0) := MG.getD_some cl
          k_updF
          refine WP.ixT hy hya ?_
          k_updF
          refine WP.ixL (SqL.of hFx) (WP.at_iL (by rw [D.fll]; exact hv)) ?_
          refine WP.ixT ha (WP.at_iL cl) ?_
          generalize (MG.ed g v).getD (fl.getD v 0) 0 = u at hw ⊢
          have hu : u ∈ MG.ed g v := List.mem_of_getElem? hw
          have hun : u < g.length := ho.ok v u hu
          k_updF
          refine WP.ixL (SqL.of hFx) (WP.at_iL (by rw [D.fll]; exact hv)) ?_
          k_updF
          rw [show ((fl.getD v 0 : Nat) : Int) + 1 = ((fl.getD v 0 + 1 : Nat) : Int) by omega]
          refine WP.setN hFx (by rw [List.length_map, D.fll]; exact hv) ?_
          rw [WP.set_iL]
          have hsum := MG.sum_set fl v (by rw [D.fll]; exact hv)
          have eS : Same H (upd H3 F (.lst (WP.iL (fl.set v (fl.getD v 0 + 1))))) := WP.same_mut eS hF0
          have hOx : (upd H3 F (.lst (WP.iL (fl.set v (fl.getD v 0 + 1))))) O = some (.lst (WP.iL o)) := by rw [upd_ne nOF]; exact hOx
          have hSx : (upd H3 F (.lst (WP.iL (fl.set v (fl.getD v 0 + 1))))) S = some (.lst (WP.bL sl)) := by rw [upd_ne nSF]; exact hSx
          have hPx : (upd H3 F (.lst (WP.iL (fl.set v (fl.getD v 0 + 1))))) P = some (.lst (WP.iL (v :: q).reverse)) := by rw [upd_ne (Ne.symm nFP)]; exact hPx
          have hFx : (upd H3 F (.lst (WP.iL (fl.set v (fl.getD v 0 + 1))))) F = some (.lst (WP.iL (fl.set v (fl.getD v 0 + 1)))) := upd_same
          generalize upd H3 F _ = H4 at eS hOx hSx hPx hFx ⊢
          k_updF
          refine WP.ixL (SqL.of hSx) (WP.at_bL (by rw [D.sl]; exact hun)) ?_
          k_updF
          cases hb : sl.getD u false with
          | false =>
            refine WP.brT rfl ?_
            k_updF
            refine WP.setN hSx (by rw [List.length_map, D.sl]; exact hun) ?_
            rw [WP.set_bL]
            k_updF
            refine WP.tyL (xs := WP.iL (v :: q).reverse) (SqL.of (by rw [upd_ne (Ne.symm nSP)]; exact hPx)) ?_
            k_updF
            refine WP.appL (xs := WP.iL (v :: q).reverse) (by rw [upd_ne (Ne.symm nSP)]; exact hPx) (by rw [List.length_map, List.length_reverse, List.length_cons, sizeLine_eq]; omega) ?_
            rw [WP.app_rev]
            have D2 := (D.push hun hb (fun b h => by cases h; exact .one hu)).follow (v := v) (w := u) (.tail _ List.mem_cons_self) hw (List.mem_append.mpr (.inr List.mem_cons_self))
            have hle := D2.sumle
            refine ⟨2 * (MG.tot g - (fl.set v (fl.getD v 0 + 1)).sum) + (u :: v :: q).length, by simp only [List.length_cons]; omega, o, u :: v :: q, sl.set u true, _, _, _, rfl, WP.same_mut (WP.same_mut eS hS0) hPn, ?_, ?_, ?_, upd_same, D2, fun x hx => ?_, rfl⟩
            · rw [upd_ne nOP, upd_ne nOS]; exact hOx
            · rw [upd_ne nSP, upd_same]
            · rw [upd_ne nFP, upd_ne (Ne.symm nSF)]; exact hFx
            · rw [MG.getD_set _ _ _ _ _ (by rw [D.sl]; exact hun)]
              split
              · rfl
              · exact seen x hx
          | true =>
            refine WP.brF rfl ?_
            k_updF
            have D2 := D.follow (v := v) (w := u) List.mem_cons_self hw ((D.sn u).mp hb)
            have hle := D2.sumle
            exact ⟨2 * (MG.tot g - (fl.set v (fl.getD v 0 + 1)).sum) + (v :: q).length, by simp only [List.length_cons]; omega, o, v :: q, sl, _, _, _, rfl, eS, hOx, hSx, hFx, hPx, D2, seen, rfl⟩
    rintro σ' H' ⟨o, sl, fl, z4, z5, z6, z7, rfl, eS, hOx, hSx, hFx, D, seen⟩
    rw [Int.toNat_natCast, hxl] at seen
    k_updF
    exact k o O H' (D.fo' seen) hO eS hOx
end
abbrev s__vertices_on_circles : Stmt := top 3
abbrev N__vertices_on_circles : List Str := ["graph", "found", "back", "is_seen", "start", "party", "at", "other", "ahead"]
theorem sc__vertices_on_circles : FnScope N__vertices_on_circles ["graph"] (defScope s__vertices_on_circles) := ⟨rfl, rfl, rfl, by decide +kernel, rfl, by decide +kernel, by decide +kernel⟩
/-- what stands while the parties are made: the turned graph and the order -/
structure Std (H : Hp) (B L : Addr) (as : List Addr) (b : Nat → List Nat) (o : List Nat) : Prop where
  hB : H B = some (.lst (as.map V.ref))
  hL : H L = some (.lst (WP.iL o))
  hb : ∀ (j : Nat) (a : Addr), as[j]? = some a → H a = some (.lst (WP.iL (b j)))
def Off (x B L : Addr) (as : List Addr) : Prop := x ≠ B ∧ x ≠ L ∧ ∀ a ∈ as, x ≠ a
theorem Std.same {H H' : Hp} {B L : Addr} {as : List Addr} {b : Nat → List Nat} {o : List Nat} (h : Std H B L as b o) (e : Same H H') : Std H' B L as b o := ⟨e _ _ h.hB, e _ _ h.hL, fun j a k => e _ _ (h.hb j a k)⟩
theorem Std.upd {H : Hp} {B L x : Addr} {as : List Addr} {b : Nat → List Nat} {o : List Nat} {u : HO} (h : Std H B L as b o) (n : Off x B L as) : Std (upd H x u) B L as b o :=
  ⟨by rw [upd_ne (Ne.symm n.1)]; exact h.hB, by rw [upd_ne (Ne.symm n.2.1)]; exact h.hL, fun j a k => by rw [upd_ne (Ne.symm (n.2.2 a (List.mem_of_getElem? k)))]; exact h.hb j a k⟩
theorem Std.new {H : Hp} {B L x : Addr} {as : List Addr} {b : Nat → List Nat} {o : List Nat} (h : Std H B L as b o) (hx : H x = none) : Off x B L as :=
  ⟨Ne.symm (ne_of_none h.hB hx), Ne.symm (ne_of_none h.hL hx), fun a ha => by
    obtain ⟨i, hi, e⟩ := List.getElem_of_mem ha
    exact Ne.symm (ne_of_none (h.hb i a (by rw [List.getElem?_eq_getElem hi, e])) hx)⟩
def sp__vertices_on_circles (K : PySem.W.Frag) (mg : WP.MG) : Sp := fun vs H Q _ => ∃ (p : Addr) (g : MG.Gr), vs = [.ref p] ∧ GrAt K H p g ∧ GOk g ∧ (∀ v, (MG.ed g v).Nodup) ∧ ∀ (F : Addr) (fd : List Nat) (H' : Hp), Same H H' → H' F = some (.lst (WP.iL fd)) → (∀ v, v ∈ fd ↔ v < g.length ∧ MG.Cyc g v) → Q (.ref F) H'
section
variable {P : Program} {w : World} {K : PySem.W.Frag} {mg : Str → Option Value} {base : Heap}
theorem ok__vertices_on_circles {f : Addr} {fd : FuncData} (F : Fun K "_vertices_on_circles" "_vertices_on_circles" s__vertices_on_circles f fd) (B : Blt w K mg) (c__turned : WP.Callee P w K mg base CX0 1 "_turned" ["graph"] (sp__turned K mg)) (c__finish_order : WP.Callee P w K mg base CX0 1 "_finish_order" ["graph"] (sp__finish_order K mg)) : FnOk P w K mg base CX0 2 f fd ["graph"] (sp__vertices_on_circles K mg) := by
  refine F.ok sc__vertices_on_circles (fun vs H Q E h => ?_) (fun cdv A outer s H vs Q E hr h => ?_)
  · first | (obtain ⟨_, rfl, _⟩ := h; rfl) | (obtain ⟨_, _, rfl, _⟩ := h; rfl) | (obtain ⟨_, _, _, rfl, _⟩ := h; rfl) | (obtain ⟨_, _, _, _, rfl, _⟩ := h; rfl) | (obtain ⟨_, _, _, _, _, rfl, _⟩ := h; rfl) | (obtain ⟨_, _, _, _, _, _, rfl, _⟩ := h; rfl) | (obtain ⟨_, _, _, _, _, _, _, rfl, _⟩ := h; rfl) | (obtain ⟨_, _, _, _, _, _, _, _, rfl, _⟩ := h; rfl) | (obtain ⟨rfl, _⟩ := h; rfl)
  · obtain ⟨p, g, rfl, hg, ho, hnd, k⟩ := h
    refine ⟨_, (pss_cons (ps_set (i := 1) sc__vertices_on_circles.nd rfl (Or.inl rfl) (pe_lst pa_nil))
      (pss_cons (ps_set (i := 2) sc__vertices_on_circles.nd rfl (Or.inl rfl) (WP.pe_callC c__turned hr rfl pass0 (WP.pa_consN (pv 0) pa_nil)))
      (pss_cons (ps_set (i := 3) sc__vertices_on_circles.nd rfl (Or.inr rfl) (pe_op op_rep (pe_lst (WP.pa_consN pe_bl pa_nil)) (pe_callB WP.c_len (by rfl) B.b_len (by decide +kernel) (WP.pa_consN (pv 0) pa_nil))))
      (pss_cons (ps_for PassesOwn.never rfl (pi_reversed (by rfl) B.b_reversed (WP.pa_consN (WP.pe_callC c__finish_order hr rfl pass0 (WP.pa_consN (pv 0) pa_nil)) pa_nil)) (pg_name (i := 4) sc__vertices_on_circles.nd rfl (Or.inl rfl)) (Evl.pss_cut (ps_set (i := 5) sc__vertices_on_circles.nd rfl (Or.inl rfl) (pe_ifExp (pt_val (pe_ix ix_list (pv 3) (pv 4) (fun _ _ => rfl))) (pe_lst pa_nil) (pe_lst (WP.pa_consN (pv 4) pa_nil))))
      (pss_cons (ps_asg pe_bl (pg_sub (pv 3) (pv 4) set_list))
      (pss_cons (ps_set (i := 6) sc__vertices_on_circles.nd rfl (Or.inl rfl) pe_int)
      (pss_cons (ps_while PassesOwn.never (pt_cmpR op_lt (pv 6) (pe_callB WP.c_len (by rfl) B.b_len (by decide +kernel) (WP.pa_consN (pv 5) pa_nil)) (nomark _)) (pss_cons (ps_setLc (i := 8) (own := [("other", 7)]) (g := gName 7) rfl sc__vertices_on_circles.nd rfl rfl (sw_true rfl rfl rfl (by decide +kernel)) (pi_list (pe_ix ix_list (pv 2) (pe_ix ix_list (pv 5) (pv 6) (fun _ _ => rfl)) (fun _ _ => rfl))) (blkOk_by (own := [("other", 7)]) (N := N__vertices_on_circles) (sc := defScope s__vertices_on_circles) (by decide +kernel)) (fun _ _ _ _ _ => pg_name (i := 7) sc__vertices_on_circles.nd rfl (Or.inl rfl)) (fun _ _ _ _ _ => (pts_one (pt_not (pt_val (pe_ix (WP.ix_listK (K := K) rfl) (pv 3) (pv 7) (fun _ _ => rfl)))))) (fun _ _ _ _ _ => (pv 7)))
      (pss_cons (ps_for PassesOwn.never rfl (pi_list (pv 8)) (pg_name (i := 7) sc__vertices_on_circles.nd rfl (Or.inl rfl)) (pss_one (ps_asg pe_bl (pg_sub (pv 3) (pv 7) set_list))))
      (pss_cons (ps_expr (pe_bm PySem.F.plainAttrs_list PySem.F.slot_list_extend PySem.F.type_list_extend mt_extend (pv 5) (WP.pa_consN (pv 8) pa_nil)))
      (pss_one (ps_set (i := 6) sc__vertices_on_circles.nd rfl (Or.inl rfl) (pe_op op_add (pv 6) pe_int)))))))
      (pss_one (ps_if (PW.pt (pw_or (pt_cmpR op_gt (pe_callB WP.c_len (by rfl) B.b_len (by decide +kernel) (WP.pa_consN (pv 5) pa_nil)) pe_int (nomark _)) (pw_or1 (pt_cmpR op_in_seq (pv 4) (pe_ix ix_tup (pv 0) (pv 4) (fun _ _ => rfl)) rfl)))) (pss_one (ps_expr (pe_bm PySem.F.plainAttrs_list PySem.F.slot_list_extend PySem.F.type_list_extend mt_extend (pv 1) (WP.pa_consN (pv 5) pa_nil)))) pss_nil)))))))
      (pss_one (ps_ret (pv 1))))))), ?_⟩
    obtain ⟨xs, hx, hxl⟩ := hg.top
    have hn := ho.n
    k_updF
    refine ⟨Nat.zero_le _, fun F hF => ?_⟩
    have e1 : Same H (upd H F (.lst [])) := WP.same_new hF
    have f1 : (upd H F (.lst [])) F = some (.lst (WP.iL [])) := upd_same
    generalize upd H F _ = H1 at e1 f1
    k_updF
    refine ⟨p, g, rfl, hg.same e1, ho, hnd, fun B as b H2 hB0 has0 e2 hB hal hb hbk => ?_⟩
    have nFB : F ≠ B := ne_of_none f1 hB0
    have nFa : ∀ a ∈ as, F ≠ a := fun a h => ne_of_none f1 (has0 a h)
    have f2 := e2 _ _ f1
    have e2 := e1.trans e2
    k_updF
    refine ⟨WP.sz (show 1 ≤ 1000000 by decide), fun A1 hA1 => ?_⟩
    have e3 : Same H2 (upd H2 A1 (.lst [.bl false])) := WP.same_new hA1
    have a3 : (upd H2 A1 (.lst [.bl false])) A1 = some (.lst [.bl false]) := upd_same
    generalize upd H2 A1 _ = H3 at e3 a3
    k_updF
    refine WP.lenT (WP.sqt (e2.trans e3) hx) ?_
    refine WP.rep1 a3 (by omega) (by omega) (fun S hS => ?_)
    rw [Int.toNat_natCast, hxl]
    have e4 : Same H3 (upd H3 S (.lst (List.replicate g.length (.bl false)))) := WP.same_new hS
    have s4 : (upd H3 S (.lst (List.replicate g.length (.bl false)))) S = some (.lst (WP.bL (List.replicate g.length false))) := by rw [upd_same]; unfold WP.bL; rw [List.map_replicate]
    have nFS : F ≠ S := ne_of_none (e3 _ _ f2) hS
    have nBS : B ≠ S := ne_of_none (e3 _ _ hB) hS
    have hSH := (e2.trans e3).free hS
    have nbS : ∀ (j : Nat) (a : Addr), as[j]? = some a → a ≠ S := fun j a h => ne_of_none (e3 _ _ (hb j a h)) hS
    generalize upd H3 S _ = H4 at e4 s4
    have e34 := e3.trans e4
    have f4 := e34 _ _ f2
    have b4 := e34 _ _ hB
    have hb4 : ∀ (j : Nat) (a : Addr), as[j]? = some a → H4 a = some (.lst (WP.iL (b j))) := fun j a h => e34 _ _ (hb j a h)
    have e4 := e2.trans e34
    clear e34 e3 e2 e1 f1 f2 hB a3 hA1 hS hb
    k_updF
    refine ⟨p, g, rfl, hg.same e4, ho, fun o L H5 hFo hL0 e5 hL => ?_⟩
    have nFL : F ≠ L := ne_of_none f4 hL0
    have nSL : S ≠ L := ne_of_none s4 hL0
    have f5 := e5 _ _ f4
    have s5 := e5 _ _ s4
    have st5 : Std H5 B L as b o := ⟨e5 _ _ b4, hL, fun j a h => e5 _ _ (hb4 j a h)⟩
    have e5 := e4.trans e5
    have oF : Off F B L as := ⟨nFB, nFL, nFa⟩
    have oS : Off S B L as := ⟨Ne.symm nBS, nSL, fun a ha => by
      obtain ⟨i, hi, e⟩ := List.getElem_of_mem ha
      exact Ne.symm (nbS i a (by rw [List.getElem?_eq_getElem hi, e]))⟩
    clear hL hL0 e4 hb4 b4 f4 s4 nFB nFL nFa nBS nSL nbS hB0 has0
    k_updF
    refine ⟨L, _, rfl, SqL.of st5.hL, RT.for_Itv (K := K) (a := L) (xs := WP.iL o) (fun i σ' H' => Same H H' ∧ Std H' B L as b o ∧ ∃ (Ss fd : List Nat) (sl : List Bool) (z4 z5 z6 z7 z8 : Option V), σ' = [some (.ref p), some (.ref F), some (.ref B), some (.ref S), z4, z5, z6, z7, z8] ∧
        H' F = some (.lst (WP.iL fd)) ∧ H' S = some (.lst (WP.bL sl)) ∧ sl.length = g.length ∧ (∀ v, sl.getD v false = true ↔ v ∈ Ss) ∧ Ss.Nodup ∧ fd.length ≤ Ss.length ∧ MG.Ko g Ss fd ∧ ∀ j x, o.length - i ≤ j → o[j]? = some x → x ∈ Ss)
      ⟨e5, st5, [], [], _, _, _, _, _, _, rfl, f5, s5, List.length_replicate, (fun v => by rw [MG.rep_getD]; exact ⟨fun z => (by cases z), fun z => (by cases z)⟩), List.nodup_nil, Nat.le_refl _, MG.Ko.nil, fun j x h1 h2 => by
        have := (List.getElem?_eq_some_iff.mp h2).1
        omega⟩ (fun i σ' H' h => SqL.of h.2.1.hL) ?_ ?_⟩
    · clear f5 s5 st5 e5
      rintro i x σ' H6 hi hix ⟨e6, st, Ss, fd, sl, z4, z5, z6, z7, z8, rfl, hFx, hSx, hsl, hsn, hSn, hfl, hK, hdone⟩
      rw [List.length_map] at hi hix
      rw [List.getElem?_map] at hix
      obtain ⟨v, hv, rfl⟩ : ∃ v : Nat, o[o.length - 1 - i]? = some v ∧ V.int (v : Int) = x := by
        cases e : o[o.length - 1 - i]? with
        | none => rw [e] at hix; cases hix
        | some v => rw [e] at hix; exact ⟨v, rfl, Option.some.inj hix⟩
      have hvn : v < g.length := (hFo.all v).mp (List.mem_of_getElem? hv)
      have hSl : Ss.length ≤ g.length := MG.nodup_len hSn hK.lt
      k_updF
      refine WP.cut (fun σ' H' => ∃ (P : Addr) (q : List Nat), σ' = [some (.ref p), some (.ref F), some (.ref B), some (.ref S), some (.int (v : Int)), some (.ref P), z6, z7, z8] ∧ Same H6 H' ∧ H6 P = none ∧ H' P = some (.lst (WP.iL q)) ∧ ((q = [] ∧ v ∈ Ss) ∨ (q = [v] ∧ v ∉ Ss))) ?_ ?_
      · k_updF
        refine WP.ixL (SqL.of hSx) (WP.at_bL (by rw [hsl]; exact hvn)) ?_
        k_updF
        refine WP.brB (fun c => ?_) (fun c => ?_)
        · k_updF
          refine ⟨Nat.zero_le _, fun P hP => ?_⟩
          k_updF
          exact ⟨P, [], rfl, WP.same_new hP, hP, upd_same, .inl ⟨rfl, (hsn v).mp c⟩⟩
        · k_updF
          refine ⟨WP.sz (show 1 ≤ 1000000 by decide), fun P hP => ?_⟩
          k_updF
          exact ⟨P, [v], rfl, WP.same_new hP, hP, upd_same, .inr ⟨rfl, fun z => by rw [(hsn v).mpr z] at c; cases c⟩⟩
      rintro σ' H7 ⟨P, q, rfl, e7, hP0, hPx, hq⟩
      have oP := st.new hP0
      have nFP : F ≠ P := ne_of_none hFx hP0
      have nSP : S ≠ P := ne_of_none hSx hP0
      have hPH := e6.free hP0
      have st := st.same e7
      have hFx := e7 _ _ hFx
      have hSx := e7 _ _ hSx
      have e7 := e6.trans e7
      clear e6 hP0
      k_updF
      refine WP.setN hSx (by rw [List.length_map, hsl]; exact hvn) ?_
      rw [WP.set_bL]
      have e8 : Same H (upd H7 S (.lst (WP.bL (sl.set v true)))) := WP.same_mut e7 hSH
      have st := st.upd (u := .lst (WP.bL (sl.set v true))) oS
      have hFx : (upd H7 S (.lst (WP.bL (sl.set v true)))) F = some (.lst (WP.iL fd)) := by rw [upd_ne nFS]; exact hFx
      have hPx : (upd H7 S (.lst (WP.bL (sl.set v true)))) P = some (.lst (WP.iL q)) := by rw [upd_ne (Ne.symm nSP)]; exact hPx
      have hSx : (upd H7 S (.lst (WP.bL (sl.set v true)))) S = some (.lst (WP.bL (sl.set v true))) := upd_same
      generalize upd H7 S _ = H8 at e8 st hFx hPx hSx
      have hsl2 : (sl.set v true).length = g.length := by rw [List.length_set]; exact hsl
      have hsn2 : ∀ u, (sl.set v true).getD u false = true ↔ u ∈ Ss ++ q := fun u => by
        rw [MG.getD_set _ _ _ _ _ (by omega), List.mem_append]
        rcases hq with ⟨rfl, h⟩ | ⟨rfl, h⟩
        · by_cases e : v = u
          · subst e; simp [h]
          · rw [if_neg e, hsn u]; simp
        · by_cases e : v = u
          · subst e; simp
          · rw [if_neg e, hsn u]
            exact ⟨.inl, fun z => z.elim id fun z => absurd (List.mem_singleton.mp z).symm e⟩
      generalize sl.set v true = sl2 at hSx hsl2 hsn2
      have hpa : (q = [] ∧ v ∈ Ss) ∨ (v ∉ Ss ∧ MG.Pa g Ss q v 0) := by
        rcases hq with h | ⟨rfl, h⟩
        · exact .inl h
        · exact .inr ⟨h, MG.Pa.one h hvn⟩
      have hqn : (Ss ++ q).Nodup := by
        rcases hq with ⟨rfl, h⟩ | ⟨rfl, h⟩
        · rw [List.append_nil]; exact hSn
        · rw [List.nodup_append]
          exact ⟨hSn, by simp, fun a ha b hb => by rw [List.mem_singleton.mp hb]; exact fun z : a = v => h (by rw [← z]; exact ha)⟩
      clear hq e7 hsn hsl
      k_updF
      refine ⟨fun m σ' H3 => ∃ (q : List Nat) (kk : Nat) (sl : List Bool) (z7 z8 : Option V), σ' = [some (.ref p), some (.ref F), some (.ref B), some (.ref S), some (.int (v : Int)), some (.ref P), some (.int (kk : Int)), z7, z8] ∧ Same H H3 ∧ Std H3 B L as b o ∧
        H3 F = some (.lst (WP.iL fd)) ∧ H3 P = some (.lst (WP.iL q)) ∧ H3 S = some (.lst (WP.bL sl)) ∧ sl.length = g.length ∧ (∀ u, sl.getD u false = true ↔ u ∈ Ss ++ q) ∧ (Ss ++ q).Nodup ∧ kk ≤ q.length ∧ ((q = [] ∧ v ∈ Ss) ∨ (v ∉ Ss ∧ MG.Pa g Ss q v kk)) ∧ m = g.length - kk,
        ⟨_, q, 0, sl2, _, _, rfl, e8, st, hFx, hPx, hSx, hsl2, hsn2, hqn, Nat.zero_le _, hpa, rfl⟩, ?_⟩
      clear e8 st hFx hPx hSx hsl2 hsn2 hqn hpa
      rintro m σ' H9 ⟨q, kk, sl, z7, z8, rfl, e9, st, hFx, hPx, hSx, hsl, hsn, hqn, hkq, hpa, rfl⟩
      have hql : Ss.length + q.length ≤ g.length := by
        rw [← List.length_append]
        refine MG.nodup_len hqn fun x hx => ?_
        rcases List.mem_append.mp hx with h | h
        · exact hK.lt x h
        · rcases hpa with ⟨e, _⟩ | ⟨_, P⟩
          · rw [e] at h; cases h
          · exact P.lt x h
      k_updF
      refine WP.lenL (SqL.of hPx) ?_
      rw [List.length_map]
      k_updF
      refine WP.br (fun c => ?_) (fun c => ?_)
      · have hkl : kk < q.length := by omega
        obtain ⟨hvS, Pq⟩ : v ∉ Ss ∧ MG.Pa g Ss q v kk := hpa.resolve_left (fun z => by rw [z.1] at hkl; exact absurd hkl (Nat.not_lt_zero _))
        have hxk : q[kk]? = some (q.getD kk 0) := MG.getD_some hkl
        have hpat := WP.at_iL hkl
        generalize q.getD kk 0 = x at hxk hpat
        have hxn : x < g.length := Pq.lt x (List.mem_of_getElem? hxk)
        have hax : as[x]? = some as[x] := List.getElem?_eq_getElem (by omega)
        have hat : atI (as.map V.ref) (x : Int) = some (.ref as[x]) := atI_nat (by rw [List.getElem?_map, hax]; rfl)
        have hbx := st.hb x _ hax
        have hbl : (b x).length ≤ g.length := MG.nodup_len (hbk.nd x) fun u hu => ((hbk.m x u).mp hu).1
        generalize as[x] = c0 at hat hbx
        clear hax
        refine ⟨_, fun _ _ x => x, ?_⟩
        k_updF
        refine WP.ixL (SqL.of hPx) hpat ?_
        refine WP.ixL (SqL.of st.hB) hat ?_
        refine ⟨c0, rfl, ⟨_, SqL.of hbx⟩, fun D hD => lc_list (K := K) (a := c0) (xs := WP.iL (b x)) (fun j Hx => Same H9 Hx ∧ Hx D = some (.lst (WP.iL (((b x).take j).filter fun u => !sl.getD u false)))) ⟨WP.same_new hD, upd_same⟩ (fun j Hx _ h => SqL.of (h.1 _ _ hbx)) ?_ ?_⟩
        · rintro j y Hx hjx ⟨e10, hDx⟩
          rw [List.getElem?_map] at hjx
          obtain ⟨u, hu, rfl⟩ : ∃ u : Nat, (b x)[j]? = some u ∧ V.int (u : Int) = y := by
            cases e : (b x)[j]? with
            | none => rw [e] at hjx; cases hjx
            | some u => rw [e] at hjx; exact ⟨u, rfl, Option.some.inj hjx⟩
          have hun := ((hbk.m x u).mp (List.mem_of_getElem? hu)).1
          have et : (b x).take (j + 1) = (b x).take j ++ [u] := by rw [List.take_succ, hu]; rfl
          k_updF
          refine ⟨rfl, ?_⟩
          k_updF
          refine WP.ixL (SqL.of (e10 _ _ hSx)) (WP.at_bL (by rw [hsl]; exact hun)) ?_
          k_updF
          cases hb : sl.getD u false with
          | false =>
            refine WP.brT rfl ?_
            k_updF
            refine ⟨_, hDx, ?_, WP.same_mut e10 hD, ?_⟩
            · rw [List.length_map, sizeLine_eq]
              have := List.length_filter_le (fun u => !sl.getD u false) ((b x).take j)
              rw [List.length_take] at this
              omega
            · rw [upd_same, et, List.filter_append, WP.app_iL, show [u].filter (fun u => !sl.getD u false) = [u] by rw [List.filter_cons_of_pos (by rw [hb]; rfl)]; rfl]
          | true =>
            refine WP.brF rfl ?_
            refine ⟨e10, ?_⟩
            rw [hDx, et, List.filter_append, show [u].filter (fun u => !sl.getD u false) = [] by rw [List.filter_cons_of_neg (by rw [hb]; decide)]; rfl, List.append_nil]
        rintro H10 ⟨e10, hDx⟩
        rw [List.length_map, List.take_length] at hDx
        have ha1 : ∀ u, u ∈ (b x).filter (fun u => !sl.getD u false) ↔ x ∈ MG.ed g u ∧ u < g.length ∧ u ∉ Ss ++ q := fun u => by
          rw [List.mem_filter, hbk.m x u]
          refine ⟨fun ⟨⟨h1, h2⟩, h3⟩ => ⟨h2, h1, fun z => by rw [(hsn u).mpr z] at h3; exact absurd h3 (by decide)⟩, fun ⟨h1, h2, h3⟩ => ⟨⟨h2, h1⟩, ?_⟩⟩
          cases e : sl.getD u false with
          | false => rfl
          | true => exact absurd ((hsn u).mp e) h3
        have han : ((b x).filter fun u => !sl.getD u false).Nodup := (hbk.nd x).filter _
        have hal2 : ((b x).filter fun u => !sl.getD u false).length ≤ g.length := Nat.le_trans (List.length_filter_le _ _) hbl
        generalize ((b x).filter fun u => !sl.getD u false) = a at hDx ha1 han hal2
        have nSD : S ≠ D := ne_of_none hSx hD
        have nFD : F ≠ D := ne_of_none hFx hD
        have nPD : P ≠ D := ne_of_none hPx hD
        have st := st.same e10
        have hFx := e10 _ _ hFx
        have hPx := e10 _ _ hPx
        have hSx := e10 _ _ hSx
        have e11 := e9.trans e10
        have hDH := e9.free hD
        clear e9 e10 hD hbx hpat hat
        k_updF
        refine ⟨D, rfl, ⟨_, SqL.of hDx⟩, for_list (K := K) (a := D) (xs := WP.iL a) (fun j σ' H' => Same H H' ∧ Std H' B L as b o ∧ H' F = some (.lst (WP.iL fd)) ∧ H' P = some (.lst (WP.iL q)) ∧ H' D = some (.lst (WP.iL a)) ∧ ∃ (sl : List Bool) (z7 : Option V),
            σ' = [some (.ref p), some (.ref F), some (.ref B), some (.ref S), some (.int (v : Int)), some (.ref P), some (.int (kk : Int)), z7, some (.ref D)] ∧ H' S = some (.lst (WP.bL sl)) ∧ sl.length = g.length ∧ ∀ u, sl.getD u false = true ↔ u ∈ Ss ++ q ∨ u ∈ a.take j)
          ⟨e11, st, hFx, hPx, hDx, sl, _, rfl, hSx, hsl, fun u => by rw [hsn u, List.take_zero]; simp⟩ (fun j σ' H' _ h => SqL.of h.2.2.2.2.1) ?_ ?_⟩
        · clear e11 st hFx hPx hDx hSx hsl hsn
          rintro j y σ' H11 hjx ⟨e11, st, hFx, hPx, hDx, sl, z7, rfl, hSx, hsl, hsn⟩
          rw [List.getElem?_map] at hjx
          obtain ⟨u, hu, rfl⟩ : ∃ u : Nat, a[j]? = some u ∧ V.int (u : Int) = y := by
            cases e : a[j]? with
            | none => rw [e] at hjx; cases hjx
            | some u => rw [e] at hjx; exact ⟨u, rfl, Option.some.inj hjx⟩
          have hun := ((ha1 u).mp (List.mem_of_getElem? hu)).2.1
          have et : a.take (j + 1) = a.take j ++ [u] := by rw [List.take_succ, hu]; rfl
          k_updF
          refine WP.setN hSx (by rw [List.length_map, hsl]; exact hun) ?_
          rw [WP.set_bL]
          refine ⟨WP.same_mut e11 hSH, st.upd oS, by rw [upd_ne nFS]; exact hFx, by rw [upd_ne (Ne.symm nSP)]; exact hPx, by rw [upd_ne (Ne.symm nSD)]; exact hDx, _, _, rfl, upd_same, by rw [List.length_set]; exact hsl, fun r => ?_⟩
          rw [MG.getD_set _ _ _ _ _ (by omega), et]
          by_cases e : u = r
          · subst e
            rw [if_pos rfl]
            exact ⟨fun _ => .inr (List.mem_append.mpr (.inr List.mem_cons_self)), fun _ => rfl⟩
          · rw [if_neg e, hsn r, List.mem_append (s := a.take j)]
            exact ⟨fun h => h.imp id .inl, fun h => h.imp id fun h => h.elim id fun z => absurd (List.mem_singleton.mp z).symm e⟩
        clear e11 st hFx hPx hDx hSx hsl hsn
        rintro σ' H11 ⟨e11, st, hFx, hPx, hDx, sl, z7, rfl, hSx, hsl, hsn⟩
        rw [List.length_map, List.take_length] at hsn
        k_updF
        refine WP.tyL (SqL.of hPx) ?_
        k_updF
        refine ⟨P, D, _, _, rfl, rfl, hPx, hDx, by rw [List.length_map, List.length_map, sizeLine_eq]; omega, ?_⟩
        rw [show WP.iL q ++ WP.iL a = WP.iL (q ++ a) from List.map_append.symm]
        k_updF
        rw [show ((kk : Nat) : Int) + 1 = ((kk + 1 : Nat) : Int) by omega]
        refine ⟨g.length - (kk + 1), by omega, q ++ a, kk + 1, sl, _, _, rfl, WP.same_mut e11 hPH, st.upd oP, by rw [upd_ne nFP]; exact hFx, upd_same, by rw [upd_ne nSP]; exact hSx, hsl, fun u => ?_, ?_, by rw [List.length_append]; omega, .inr ⟨hvS, Pq.next hxk (fun u hu => ?_) fun u hu => ?_⟩, rfl⟩
        · rw [hsn u, ← List.append_assoc, List.mem_append (t := a)]
        · rw [← List.append_assoc, List.nodup_append]
          exact ⟨hqn, han, fun u hu w hw e => ((ha1 w).mp hw).2.2 (e ▸ hu)⟩
        · obtain ⟨h1, h2, h3⟩ := (ha1 u).mp hu
          exact ⟨h1, fun z => h3 (List.mem_append.mpr (.inl z)), h2, fun z => h3 (List.mem_append.mpr (.inr z))⟩
        · by_cases z : u ∈ Ss ++ q
          · rcases List.mem_append.mp z with z | z
            · exact .inl z
            · exact .inr (.inl z)
          · exact .inr (.inr ((ha1 u).mpr ⟨hu, MG.ed_lt hu, z⟩))
      · have hkk : kk = q.length := by omega
        subst hkk
        obtain ⟨a, ys, hy, hyl, hya, ha⟩ := (hg.same e9).row hvn
        have hK2 : MG.Ko g (Ss ++ q) (if 1 < q.length ∨ v ∈ MG.ed g v then fd ++ q else fd) := by
          rcases hpa with ⟨e, _⟩ | ⟨hvS, Pq⟩
          · subst e
            rw [List.append_nil, List.append_nil]
            split <;> exact hK
          · exact hK.step Pq hvS hvn hFo hv fun j x h1 h2 => hdone j x (by omega) h2
        have hd2 : ∀ j x, o.length - (i + 1) ≤ j → o[j]? = some x → x ∈ Ss ++ q := fun j x h1 h2 => by
          by_cases e : j = o.length - 1 - i
          · rw [e, hv] at h2
            cases h2
            rcases hpa with ⟨_, h⟩ | ⟨_, Pq⟩
            · exact List.mem_append.mpr (.inl h)
            · exact List.mem_append.mpr (.inr (List.mem_of_getElem? Pq.hd))
          · exact List.mem_append.mpr (.inl (hdone j x (by omega) h2))
        clear hpa hdone
        k_updF
        refine WP.lenL (SqL.of hPx) ?_
        rw [List.length_map]
        k_updF
        refine WP.br (fun c1 => ?_) (fun c1 => ?_)
        · rw [if_pos (.inl (show 1 < q.length by omega))] at hK2
          refine WP.brT rfl ?_
          k_updF
          refine WP.tyL (SqL.of hFx) ?_
          k_updF
          refine ⟨F, P, _, _, rfl, rfl, hFx, hPx, by rw [List.length_map, List.length_map, sizeLine_eq]; omega, ?_⟩
          rw [show WP.iL fd ++ WP.iL q = WP.iL (fd ++ q) from List.map_append.symm]
          exact ⟨WP.same_mut e9 hF, st.upd oF, _, _, _, _, _, _, _, _, rfl, upd_same, by rw [upd_ne (Ne.symm nFS)]; exact hSx, hsl, hsn, hqn, by rw [List.length_append, List.length_append]; omega, hK2, hd2⟩
        · k_updF
          refine WP.ixT hy hya ?_
          refine WP.inNT ha ?_
          k_updF
          refine WP.br (fun c2 => ?_) (fun c2 => ?_)
          · rw [if_pos (.inr c2)] at hK2
            k_updF
            refine WP.tyL (SqL.of hFx) ?_
            k_updF
            refine ⟨F, P, _, _, rfl, rfl, hFx, hPx, by rw [List.length_map, List.length_map, sizeLine_eq]; omega, ?_⟩
            rw [show WP.iL fd ++ WP.iL q = WP.iL (fd ++ q) from List.map_append.symm]
            exact ⟨WP.same_mut e9 hF, st.upd oF, _, _, _, _, _, _, _, _, rfl, upd_same, by rw [upd_ne (Ne.symm nFS)]; exact hSx, hsl, hsn, hqn, by rw [List.length_append, List.length_append]; omega, hK2, hd2⟩
          · rw [if_neg (fun z => z.elim (fun z => c1 (by omega)) c2)] at hK2
            k_updF
            exact ⟨e9, st, _, _, _, _, _, _, _, _, rfl, hFx, hSx, hsl, hsn, hqn, by rw [List.length_append]; omega, hK2, hd2⟩
    rintro σ' H6 ⟨e6, st, Ss, fd, sl, z4, z5, z6, z7, z8, rfl, hFx, hSx, hsl, hsn, hSn, hfl, hK, hdone⟩
    k_updF
    refine k F fd H6 e6 hFx (fun v => ?_)
    rw [hK.f v]
    refine ⟨fun h => ⟨hK.lt v h.1, h.2⟩, fun h => ⟨?_, h.2⟩⟩
    obtain ⟨j, hj, hje⟩ := List.getElem_of_mem ((hFo.all v).mpr h.1)
    exact hdone j v (by rw [List.length_map, Nat.sub_self]; exact Nat.zero_le _) (by rw [List.getElem?_eq_getElem hj, hje])
end
abbrev s__shortest_circle : Stmt := top 5
abbrev N__shortest_circle : List Str := ["graph", "start", "origins", "row", "at", "other", "ahead", "way"]
theorem sc__shortest_circle : FnScope N__shortest_circle ["graph", "start"] (defScope s__shortest_circle) := ⟨rfl, rfl, rfl, by decide +kernel, rfl, by decide +kernel, by decide +kernel⟩
def sp__shortest_circle (K : PySem.W.Frag) (mg : WP.MG) : Sp := fun vs H Q _ => ∃ (p : Addr) (g : MG.Gr) (s : Nat), vs = [.ref p, .int (s : Int)] ∧ GrAt K H p g ∧ GOk g ∧ (∀ v, (MG.ed g v).Nodup) ∧ s < g.length ∧ MG.Cyc g s ∧ ∀ (c : List Nat) (q : Addr) (H' : Hp), MG.Ci g s c → Same H H' → H' q = some (.tup (WP.iL c)) → Q (.ref q) H'
section
variable {P : Program} {w : World} {K : PySem.W.Frag} {mg : Str → Option Value} {base : Heap}
theorem ok__shortest_circle {f : Addr} {fd : FuncData} (F : Fun K "_shortest_circle" "_shortest_circle" s__shortest_circle f fd) (B : Blt w K mg)  : FnOk P w K mg base CX0 1 f fd ["graph", "start"] (sp__shortest_circle K mg) := by
  refine F.ok sc__shortest_circle (fun vs H Q E h => ?_) (fun cdv A outer s H vs Q E hr h => ?_)
  · first | (obtain ⟨_, rfl, _⟩ := h; rfl) | (obtain ⟨_, _, rfl, _⟩ := h; rfl) | (obtain ⟨_, _, _, rfl, _⟩ := h; rfl) | (obtain ⟨_, _, _, _, rfl, _⟩ := h; rfl) | (obtain ⟨_, _, _, _, _, rfl, _⟩ := h; rfl) | (obtain ⟨_, _, _, _, _, _, rfl, _⟩ := h; rfl) | (obtain ⟨_, _, _, _, _, _, _, rfl, _⟩ := h; rfl) | (obtain ⟨_, _, _, _, _, _, _, _, rfl, _⟩ := h; rfl) | (obtain ⟨rfl, _⟩ := h; rfl)
  · obtain ⟨p, g, s, rfl, hg, ho, hnd, hs, hcy, k⟩ := h
    refine ⟨_, (pss_cons (ps_set (i := 2) sc__shortest_circle.nd rfl (Or.inr rfl) (pe_disp (pps_cons (pv 1) (pv 1) pps_nil) (by rfl) (by rfl) (fun h => nomatch h) (by decide)))
      (pss_cons (ps_set (i := 3) sc__shortest_circle.nd rfl (Or.inl rfl) (pe_lst (WP.pa_consN (pv 1) pa_nil)))
      (pss_cons (ps_set (i := 4) sc__shortest_circle.nd rfl (Or.inl rfl) pe_int)
      (pss_cons (ps_while PassesOwn.never (pt_cmpR op_notIn_seq (pv 1) (pe_ix ix_tup (pv 0) (pe_ix ix_list (pv 3) (pv 4) (fun _ _ => rfl)) (fun _ _ => rfl)) rfl) (pss_cons (ps_setLc (i := 6) (own := [("other", 5)]) (g := gName 5) rfl sc__shortest_circle.nd rfl rfl (sw_true rfl rfl rfl (by decide +kernel)) (pi_tup (pe_ix ix_tup (pv 0) (pe_ix ix_list (pv 3) (pv 4) (fun _ _ => rfl)) (fun _ _ => rfl))) (blkOk_by (own := [("other", 5)]) (N := N__shortest_circle) (sc := defScope s__shortest_circle) (by decide +kernel)) (fun _ _ _ _ _ => pg_name (i := 5) sc__shortest_circle.nd rfl (Or.inl rfl)) (fun _ _ _ _ _ => (pts_one (pt_cmp (pc_dnotin (hu_of hr) (pv 5) (pv 2))))) (fun _ _ _ _ _ => (pv 5)))
      (pss_cons (ps_for PassesOwn.never rfl (pi_list (pv 6)) (pg_name (i := 5) sc__shortest_circle.nd rfl (Or.inl rfl)) (pss_one (ps_dput (hu_of hr) (pv 2) (pv 5) (pe_ix ix_list (pv 3) (pv 4) (fun _ _ => rfl)) rfl)))
      (pss_cons (ps_expr (pe_bm PySem.F.plainAttrs_list PySem.F.slot_list_extend PySem.F.type_list_extend mt_extend (pv 3) (WP.pa_consN (pv 6) pa_nil)))
      (pss_one (ps_set (i := 4) sc__shortest_circle.nd rfl (Or.inl rfl) (pe_op op_add (pv 4) pe_int)))))))
      (pss_cons (ps_set (i := 7) sc__shortest_circle.nd rfl (Or.inl rfl) (pe_lst (WP.pa_consN (pe_ix ix_list (pv 3) (pv 4) (fun _ _ => rfl)) pa_nil)))
      (pss_cons (ps_while PassesOwn.never (pt_cmpR op_ne (pe_ix ix_list (pv 7) (pe_un un_neg pe_int) (fun _ _ => rfl)) (pv 1) (nomark _)) (pss_one (ps_expr (pe_bm PySem.F.plainAttrs_list PySem.F.slot_list_append PySem.F.type_list_append mt_append (pv 7) (WP.pa_consN (pe_dget (hu_of hr) (pv 2) (pe_ix ix_list (pv 7) (pe_un un_neg pe_int) (fun _ _ => rfl)) (fun _ _ => rfl)) pa_nil)))))
      (pss_one (ps_ret (RT.pe_tupRev rfl (by rfl) B.b_tuple (by rfl) B.b_reversed (pv 7)))))))))), ?_⟩
    have hn := ho.n
    k_updF
    refine fun O hO => ⟨_, rfl, _, rfl, upd_same, [((Sum.inl (s : Int) : Key), V.int (s : Int))], rfl, show 1 ≤ 15 by decide, ?_⟩
    have e1 : Same H (upd (upd H O (.dK [])) O (.dK (mergeK [] [((Sum.inl (s : Int) : Key), V.int (s : Int))]))) := WP.same_disp hO
    have o1 : (upd (upd H O (.dK [])) O (.dK (mergeK [] [((Sum.inl (s : Int) : Key), V.int (s : Int))]))) O = some (.dK [((Sum.inl (s : Int) : Key), V.int (s : Int))]) := upd_same
    generalize upd (upd H O (.dK [])) O _ = H1 at e1 o1 ⊢
    k_updF
    refine ⟨WP.sz (show 1 ≤ 1000000 by decide), fun R hR => ?_⟩
    have e2 : Same H1 (upd H1 R (.lst [.int (s : Int)])) := WP.same_new hR
    have r2 : (upd H1 R (.lst [.int (s : Int)])) R = some (.lst (WP.iL [s])) := upd_same
    have nOR : O ≠ R := ne_of_none o1 hR
    have hRH := e1.free hR
    generalize upd H1 R _ = H2 at e2 r2 ⊢
    have o2 := e2 _ _ o1
    have e2 := e1.trans e2
    clear e1 o1 hR
    k_updF
    refine ⟨fun m σ' H3 => ∃ (q : List Nat) (kk : Nat) (d f : Nat → Nat) (kvs : List (Key × V)) (z5 z6 z7 : Option V), σ' = [some (.ref p), some (.int (s : Int)), some (.ref O), some (.ref R), some (.int (kk : Int)), z5, z6, z7] ∧ Same H H3 ∧ H3 R = some (.lst (WP.iL q)) ∧ H3 O = some (.dK kvs) ∧
        (∀ v : Nat, valV kvs (Sum.inl (v : Int)) = if v ∈ q then some (.int ((if v = s then s else f v : Nat) : Int)) else none) ∧ kvs.length ≤ q.length ∧ MG.Bf g s q kk d f ∧ m = g.length - kk,
      ⟨_, [s], 0, fun _ => 0, fun _ => 0, _, _, _, _, rfl, e2, r2, o2, fun v => ?_, Nat.le_refl _, MG.Bf.init hs _, rfl⟩, ?_⟩
    · by_cases e : v = s
      · subst e
        rw [if_pos List.mem_cons_self, if_pos rfl]
        exact valV_pos rfl
      · rw [if_neg (fun z => e (List.mem_singleton.mp z)), valV_neg (fun z => e (by have := Sum.inl.inj z; omega))]
        rfl
    clear e2 r2 o2
    rintro m σ' H3 ⟨q, kk, d, f, kvs, z5, z6, z7, rfl, e3, hRx, hOx, hkv, hkl, hB, rfl⟩
    have hk := hB.left hcy
    have hql : q.length ≤ g.length := MG.nodup_len hB.nd hB.lt
    have hxk : q[kk]? = some (q.getD kk 0) := MG.getD_some hk
    have hat := WP.at_iL hk
    generalize q.getD kk 0 = x at hxk hat
    have hxq := List.mem_of_getElem? hxk
    have hxn := hB.lt x hxq
    obtain ⟨a, ys, hy, hyl, hya, ha⟩ := (hg.same e3).row hxn
    have hem := ho.m x
    k_updF
    refine WP.ixL (SqL.of hRx) hat ?_
    refine WP.ixT hy hya ?_
    refine WP.notInNT ha ?_
    k_updF
    refine WP.brN (fun c => ?_) (fun c => ?_)
    · refine ⟨_, fun _ _ x => x, ?_⟩
      k_updF
      refine WP.ixL (SqL.of hRx) hat ?_
      refine WP.ixT hy hya ?_
      refine ⟨a, rfl, ⟨_, ha⟩, fun D hD => lc_tup (K := K) (a := a) (xs := WP.iL (MG.ed g x)) (fun j Hx => Same H3 Hx ∧ Hx D = some (.lst (WP.iL (((MG.ed g x).take j).filter fun u => !decide (u ∈ q))))) ⟨WP.same_new hD, upd_same⟩ (fun j Hx _ h => WP.sqt h.1 ha) ?_ ?_⟩
      · rintro j y Hx hjx ⟨e4, hDx⟩
        rw [List.getElem?_map] at hjx
        obtain ⟨u, hu, rfl⟩ : ∃ u : Nat, (MG.ed g x)[j]? = some u ∧ V.int (u : Int) = y := by
          cases e : (MG.ed g x)[j]? with
          | none => rw [e] at hjx; cases hjx
          | some u => rw [e] at hjx; exact ⟨u, rfl, Option.some.inj hjx⟩
        have et : (MG.ed g x).take (j + 1) = (MG.ed g x).take j ++ [u] := by rw [List.take_succ, hu]; rfl
        k_updF
        refine ⟨rfl, ?_⟩
        k_updF
        refine ⟨O, _, rfl, DGet.k (k := Sum.inl (u : Int)) (e4 _ _ hOx), ?_⟩
        rw [hkv u]
        refine ⟨_, rfl, ?_⟩
        by_cases hb : u ∈ q
        · rw [if_pos hb]
          refine WP.brF rfl ?_
          refine ⟨e4, ?_⟩
          rw [hDx, et, List.filter_append, show [u].filter (fun u => !decide (u ∈ q)) = [] by rw [List.filter_cons_of_neg (by rw [decide_eq_true hb]; decide)]; rfl, List.append_nil]
        · rw [if_neg hb]
          refine WP.brT rfl ?_
          k_updF
          refine ⟨_, hDx, ?_, WP.same_mut e4 hD, ?_⟩
          · rw [List.length_map, sizeLine_eq]
            have := List.length_filter_le (fun u => !decide (u ∈ q)) ((MG.ed g x).take j)
            rw [List.length_take] at this
            omega
          · rw [upd_same, et, List.filter_append, WP.app_iL, show [u].filter (fun u => !decide (u ∈ q)) = [u] by rw [List.filter_cons_of_pos (by rw [decide_eq_false hb]; rfl)]; rfl]
      rintro H4 ⟨e4, hDx⟩
      rw [List.length_map, List.take_length] at hDx
      have ha1 : ∀ u, u ∈ (MG.ed g x).filter (fun u => !decide (u ∈ q)) ↔ u ∈ MG.ed g x ∧ u ∉ q := fun u => by
        rw [List.mem_filter]
        exact ⟨fun h => ⟨h.1, by simpa using h.2⟩, fun h => ⟨h.1, by simpa using h.2⟩⟩
      have han : ((MG.ed g x).filter fun u => !decide (u ∈ q)).Nodup := (hnd x).filter _
      have hal2 : ((MG.ed g x).filter fun u => !decide (u ∈ q)).length ≤ 1000 := Nat.le_trans (List.length_filter_le _ _) hem
      generalize ((MG.ed g x).filter fun u => !decide (u ∈ q)) = a2 at hDx ha1 han hal2
      have nOD : O ≠ D := ne_of_none hOx hD
      have nRD : R ≠ D := ne_of_none hRx hD
      have hOx := e4 _ _ hOx
      have hRx := e4 _ _ hRx
      have e5 := e3.trans e4
      clear e3 e4 hD hy hya ha
      k_updF
      refine ⟨D, rfl, ⟨_, SqL.of hDx⟩, for_list (K := K) (a := D) (xs := WP.iL a2) (fun j σ' H' => Same H H' ∧ H' R = some (.lst (WP.iL q)) ∧ H' D = some (.lst (WP.iL a2)) ∧ ∃ (kvs : List (Key × V)) (z5 : Option V),
          σ' = [some (.ref p), some (.int (s : Int)), some (.ref O), some (.ref R), some (.int (kk : Int)), z5, some (.ref D), z7] ∧ H' O = some (.dK kvs) ∧ (∀ v : Nat, valV kvs (Sum.inl (v : Int)) = if v ∈ q then some (.int ((if v = s then s else f v : Nat) : Int)) else if v ∈ a2.take j then some (.int (x : Int)) else none) ∧ kvs.length ≤ q.length + j)
        ⟨e5, hRx, hDx, kvs, _, rfl, hOx, fun v => by rw [hkv v, List.take_zero]; simp, by omega⟩ (fun j σ' H' _ h => SqL.of h.2.2.1) ?_ ?_⟩
      · clear e5 hRx hDx hOx hkv hkl
        rintro j y σ' H5 hjx ⟨e5, hRx, hDx, kvs, z5, rfl, hOx, hkv, hkl⟩
        rw [List.getElem?_map] at hjx
        obtain ⟨u, hu, rfl⟩ : ∃ u : Nat, a2[j]? = some u ∧ V.int (u : Int) = y := by
          cases e : a2[j]? with
          | none => rw [e] at hjx; cases hjx
          | some u => rw [e] at hjx; exact ⟨u, rfl, Option.some.inj hjx⟩
        have hj := (List.getElem?_eq_some_iff.mp hu).1
        have huq := ((ha1 u).mp (List.mem_of_getElem? hu)).2
        have et : a2.take (j + 1) = a2.take j ++ [u] := by rw [List.take_succ, hu]; rfl
        k_updF
        refine WP.ixL (SqL.of hRx) hat ?_
        k_updF
        refine WP.putKI hOx (by rw [sizeLine_eq]; omega) ?_
        refine ⟨WP.same_mut e5 hO, by rw [upd_ne (Ne.symm nOR)]; exact hRx, by rw [upd_ne (Ne.symm nOD)]; exact hDx, _, _, rfl, upd_same, fun v => ?_, ?_⟩
        · rw [valV_put, et]
          by_cases e : v = u
          · subst e
            rw [if_pos rfl, if_neg huq, if_pos (List.mem_append.mpr (.inr List.mem_cons_self))]
          · rw [if_neg (show ¬ (Sum.inl (v : Int) : Key) = Sum.inl (u : Int) from fun z => e (by have := Sum.inl.inj z; omega)), hkv v]
            by_cases q1 : v ∈ q
            · rw [if_pos q1, if_pos q1]
            · rw [if_neg q1, if_neg q1]
              by_cases q2 : v ∈ a2.take j
              · rw [if_pos q2, if_pos (List.mem_append.mpr (.inl q2))]
              · rw [if_neg q2, if_neg (fun z => (List.mem_append.mp z).elim q2 fun z => e (List.mem_singleton.mp z))]
        · have := length_putK kvs (Sum.inl (u : Int)) (V.int (x : Int))
          omega
      clear e5 hRx hDx hOx hkv hkl
      rintro σ' H5 ⟨e5, hRx, hDx, kvs, z5, rfl, hOx, hkv, hkl⟩
      rw [List.length_map] at hkl
      rw [List.length_map, List.take_length] at hkv
      k_updF
      refine WP.tyL (SqL.of hRx) ?_
      k_updF
      refine ⟨R, D, _, _, rfl, rfl, hRx, hDx, by rw [List.length_map, List.length_map, sizeLine_eq]; omega, ?_⟩
      rw [show WP.iL q ++ WP.iL a2 = WP.iL (q ++ a2) from List.map_append.symm]
      k_updF
      rw [show ((kk : Nat) : Int) + 1 = ((kk + 1 : Nat) : Int) by omega]
      refine ⟨g.length - (kk + 1), by omega, q ++ a2, kk + 1, _, _, kvs, _, _, _, rfl, WP.same_mut e5 hRH, upd_same, by rw [upd_ne nOR]; exact hOx, fun v => ?_, by rw [List.length_append]; exact hkl, hB.next ho.ok hxk c han ha1, rfl⟩
      rw [hkv v]
      by_cases q1 : v ∈ q
      · rw [if_pos q1, if_pos (List.mem_append.mpr (.inl q1)), if_neg (fun z => ((ha1 v).mp z).2 q1)]
      · rw [if_neg q1]
        by_cases q2 : v ∈ a2
        · rw [if_pos q2, if_pos (List.mem_append.mpr (.inr q2)), if_pos q2, if_neg (fun z : v = s => q1 (by rw [z]; exact List.mem_of_getElem? hB.hd))]
        · rw [if_neg q2, if_neg (fun z => (List.mem_append.mp z).elim q1 q2)]
    · have hsx : s ∈ MG.ed g x := c
      k_updF
      refine WP.ixL (SqL.of hRx) hat ?_
      k_updF
      refine ⟨WP.sz (show 1 ≤ 1000000 by decide), fun Wy hW => ?_⟩
      have e4 : Same H3 (upd H3 Wy (.lst [.int (x : Int)])) := WP.same_new hW
      have w4 : (upd H3 Wy (.lst [.int (x : Int)])) Wy = some (.lst (WP.iL [x].reverse)) := upd_same
      have nOW : O ≠ Wy := ne_of_none hOx hW
      have hWH := e3.free hW
      generalize upd H3 Wy _ = H4 at e4 w4 ⊢
      have hOx := e4 _ _ hOx
      have e4 := e3.trans e4
      clear e3 hW hRx hat hy hya ha
      k_updF
      refine ⟨fun m σ' H3 => ∃ (a : Nat) (w : List Nat), σ' = [some (.ref p), some (.int (s : Int)), some (.ref O), some (.ref R), some (.int (kk : Int)), z5, z6, some (.ref Wy)] ∧ Same H H3 ∧ H3 O = some (.dK kvs) ∧ H3 Wy = some (.lst (WP.iL (a :: w).reverse)) ∧ MG.Wb g s q x d (a :: w) ∧ m = d a,
        ⟨_, x, [], rfl, e4, hOx, w4, MG.Wb.one hxq, rfl⟩, ?_⟩
      clear e4 hOx w4
      rintro m σ' H5 ⟨b, w, rfl, e5, hOx, hWx, hWb, rfl⟩
      have hbq := hWb.q b List.mem_cons_self
      k_updF
      refine WP.ixL (SqL.of hWx) WP.at_rev ?_
      k_updF
      refine WP.brN (fun c => ?_) (fun c => ?_)
      · have c : b ≠ s := fun z => c (congrArg Nat.cast z)
        obtain ⟨f1, f2, f3⟩ := hB.fr b hbq c
        have hln := hWb.ln b rfl
        have hdx : d x ≤ 1000 := by
          have := hB.ix kk x hxk
          omega
        refine ⟨_, fun _ _ x => x, ?_⟩
        k_updF
        refine WP.tyL (SqL.of hWx) ?_
        k_updF
        refine WP.ixL (SqL.of hWx) WP.at_rev ?_
        refine ⟨O, _, rfl, WP.gotK hOx (by rw [hkv b, if_pos hbq, if_neg c]), ?_⟩
        k_updF
        refine WP.appL hWx (by rw [List.length_map, List.length_reverse, sizeLine_eq]; omega) ?_
        rw [WP.app_rev]
        exact ⟨d (f b), by omega, f b, b :: w, rfl, WP.same_mut e5 hWH, by rw [upd_ne nOW]; exact hOx, upd_same, hWb.cons hB c, rfl⟩
      · have c : b = s := Int.ofNat.inj c
        subst c
        k_updF
        refine ⟨Wy, _, rfl, SqL.of hWx, fun q1 hq1 => ?_⟩
        refine k (b :: w) q1 _ (hWb.ci hB hxk hsx) (e5.trans (WP.same_new hq1)) ?_
        rw [upd_same, ← List.map_reverse, List.reverse_reverse]
end
abbrev s_circle : Stmt := top 1
abbrev N_circle : List Str := ["graph", "vertices"]
theorem sc_circle : FnScope N_circle ["graph"] (defScope s_circle) := ⟨rfl, rfl, rfl, by decide +kernel, rfl, by decide +kernel, by decide +kernel⟩
def sp_circle (K : PySem.W.Frag) (mg : WP.MG) : Sp := fun vs H Q _ => ∃ (p : Addr) (g : MG.Gr), vs = [.ref p] ∧ GrAt K H p g ∧ GOk g ∧ (∀ v, (MG.ed g v).Nodup) ∧ ∀ (c : List Nat) (q : Addr) (H' : Hp), Same H H' → H' q = some (.tup (WP.iL c)) →
  ((c = [] ∧ ∀ v < g.length, ¬ MG.Cyc g v) ∨ ∃ s, s < g.length ∧ MG.Cyc g s ∧ (∀ v < s, ¬ MG.Cyc g v) ∧ MG.Ci g s c) → Q (.ref q) H'
section
variable {P : Program} {w : World} {K : PySem.W.Frag} {mg : Str → Option Value} {base : Heap}
theorem ok_circle {f : Addr} {fd : FuncData} (F : Fun K "circle" "circle" s_circle f fd) (B : Blt w K mg) (c__vertices_on_circles : WP.Callee P w K mg base CX0 2 "_vertices_on_circles" ["graph"] (sp__vertices_on_circles K mg)) (c__shortest_circle : WP.Callee P w K mg base CX0 1 "_shortest_circle" ["graph", "start"] (sp__shortest_circle K mg)) : FnOk P w K mg base CX0 3 f fd ["graph"] (sp_circle K mg) := by
  refine F.ok sc_circle (fun vs H Q E h => ?_) (fun cdv A outer s H vs Q E hr h => ?_)
  · first | (obtain ⟨_, rfl, _⟩ := h; rfl) | (obtain ⟨_, _, rfl, _⟩ := h; rfl) | (obtain ⟨_, _, _, rfl, _⟩ := h; rfl) | (obtain ⟨_, _, _, _, rfl, _⟩ := h; rfl) | (obtain ⟨_, _, _, _, _, rfl, _⟩ := h; rfl) | (obtain ⟨_, _, _, _, _, _, rfl, _⟩ := h; rfl) | (obtain ⟨_, _, _, _, _, _, _, rfl, _⟩ := h; rfl) | (obtain ⟨_, _, _, _, _, _, _, _, rfl, _⟩ := h; rfl) | (obtain ⟨rfl, _⟩ := h; rfl)
  · obtain ⟨p, g, rfl, hg, ho, hnd, k⟩ := h
    refine ⟨_, (pss_cons (ps_set (i := 1) sc_circle.nd rfl (Or.inl rfl) (WP.pe_callC c__vertices_on_circles hr rfl pass0 (WP.pa_consN (pv 0) pa_nil)))
      (pss_one (ps_ret (pe_ifExp (pt_truth (pv 1) (by intro _; rfl)) (WP.pe_callC c__shortest_circle hr rfl pass0 (WP.pa_consN (pv 0) (WP.pa_consN (pe_callB (cr_min rfl) (by rfl) B.b_min (by decide +kernel) (WP.pa_consN (pv 1) pa_nil)) pa_nil))) (pe_tup pa_nil))))), ?_⟩
    k_updF
    refine ⟨p, g, rfl, hg, ho, hnd, fun F fd H1 e1 hF hfd => ?_⟩
    k_updF
    refine ⟨_, WP.trL (SqL.of hF), ?_⟩
    cases fd with
    | nil =>
      refine WP.brF rfl ?_
      k_updF
      exact ⟨Nat.zero_le _, fun q hq => k [] q _ (e1.trans (WP.same_new hq)) upd_same (.inl ⟨rfl, fun v hv hc => by have := (hfd v).mpr ⟨hv, hc⟩; cases this⟩)⟩
    | cons a r =>
      refine WP.brT rfl ?_
      k_updF
      refine ⟨F, (a :: r).map (fun (w : Nat) => (w : Int)), rfl, SqL.of (by rw [hF, List.map_map]; rfl), by show 0 < _ + 1; omega, fun m hm hle => ?_⟩
      obtain ⟨s, hs, rfl⟩ := List.mem_map.mp hm
      have h1 := (hfd s).mp hs
      k_updF
      refine ⟨p, g, s, rfl, hg.same e1, ho, hnd, h1.1, h1.2, fun c q H2 hc e2 hq => k c q H2 (e1.trans e2) hq (.inr ⟨s, h1.1, h1.2, fun v hv hcy => ?_, hc⟩)⟩
      have := hle (v : Int) (List.mem_map.mpr ⟨v, (hfd v).mpr ⟨by omega, hcy⟩, rfl⟩)
      omega
end
abbrev s__law_way_back : Stmt := top 11
abbrev N__law_way_back : List Str := ["graph", "start", "reached", "seen", "k", "more", "vertex", "other"]
theorem sc__law_way_back : FnScope N__law_way_back ["graph", "start"] (defScope s__law_way_back) := ⟨rfl, rfl, rfl, by decide +kernel, rfl, by decide +kernel, by decide +kernel⟩
def sp__law_way_back (K : PySem.W.Frag) (mg : WP.MG) : Sp := fun vs H Q _ => ∃ (p : Addr) (g : MG.Gr) (s : Nat), vs = [.ref p, .int (s : Int)] ∧ GrAt K H p g ∧ GOk g ∧ (∀ v, (MG.ed g v).Nodup) ∧ s < g.length ∧ ∀ (n : Nat) (H' : Hp), Same H H' →
  ((n = 0 ∧ ¬ MG.Cyc g s) ∨ ∃ m, m < g.length ∧ n = m + 1 ∧ MG.W g s (m + 1) s ∧ ∀ m', MG.W g s (m' + 1) s → m ≤ m') → Q (.int (n : Int)) H'
section
variable {P : Program} {w : World} {K : PySem.W.Frag} {mg : Str → Option Value} {base : Heap}
theorem ok__law_way_back {f : Addr} {fd : FuncData} (F : Fun K "_law_way_back" "_law_way_back" s__law_way_back f fd) (B : Blt w K mg)  : FnOk P w K mg base CX0 1 f fd ["graph", "start"] (sp__law_way_back K mg) := by
  refine F.ok sc__law_way_back (fun vs H Q E h => ?_) (fun cdv A outer s H vs Q E hr h => ?_)
  · first | (obtain ⟨_, rfl, _⟩ := h; rfl) | (obtain ⟨_, _, rfl, _⟩ := h; rfl) | (obtain ⟨_, _, _, rfl, _⟩ := h; rfl) | (obtain ⟨_, _, _, _, rfl, _⟩ := h; rfl) | (obtain ⟨_, _, _, _, _, rfl, _⟩ := h; rfl) | (obtain ⟨_, _, _, _, _, _, rfl, _⟩ := h; rfl) | (obtain ⟨_, _, _, _, _, _, _, rfl, _⟩ := h; rfl) | (obtain ⟨_, _, _, _, _, _, _, _, rfl, _⟩ := h; rfl) | (obtain ⟨rfl, _⟩ := h; rfl)
  · obtain ⟨p, g, s, rfl, hg, ho, hnd, hs, k⟩ := h
    refine ⟨_, (pss_cons (ps_set (i := 2) sc__law_way_back.nd rfl (Or.inl rfl) (pe_callTy WP.c_listOf (by rfl) B.b_list (by decide +kernel) (WP.pa_consN (pe_ix ix_tup (pv 0) (pv 1) (fun _ _ => rfl)) pa_nil)))
      (pss_cons (ps_set (i := 3) sc__law_way_back.nd rfl (Or.inl rfl) (pe_callTy WP.c_listOf (by rfl) B.b_list (by decide +kernel) (WP.pa_consN (pv 2) pa_nil)))
      (pss_cons (ps_for PassesOwn.never rfl (pi_range1 rfl B.b_range (WP.pa_consN (pe_callB WP.c_len (by rfl) B.b_len (by decide +kernel) (WP.pa_consN (pv 0) pa_nil)) pa_nil)) (pg_name (i := 4) sc__law_way_back.nd rfl (Or.inl rfl)) (pss_cons (ps_if (pt_cmpR op_in_seq (pv 1) (pv 2) rfl) (pss_one (ps_ret (pe_op op_add (pv 4) pe_int))) pss_nil)
      (pss_cons (ps_set (i := 5) sc__law_way_back.nd rfl (Or.inl rfl) (pe_lst pa_nil))
      (pss_cons (ps_for PassesOwn.never rfl (pi_list (pv 2)) (pg_name (i := 6) sc__law_way_back.nd rfl (Or.inl rfl)) (pss_one (ps_for PassesOwn.never rfl (pi_tup (pe_ix ix_tup (pv 0) (pv 6) (fun _ _ => rfl))) (pg_name (i := 7) sc__law_way_back.nd rfl (Or.inl rfl)) (pss_one (ps_if (pt_cmpR op_notIn_seq (pv 7) (pv 3) rfl) (pss_cons (ps_expr (pe_bm PySem.F.plainAttrs_list PySem.F.slot_list_append PySem.F.type_list_append mt_append (pv 3) (WP.pa_consN (pv 7) pa_nil)))
      (pss_one (ps_expr (pe_bm PySem.F.plainAttrs_list PySem.F.slot_list_append PySem.F.type_list_append mt_append (pv 5) (WP.pa_consN (pv 7) pa_nil))))) pss_nil)))))
      (pss_cons (ps_set (i := 2) sc__law_way_back.nd rfl (Or.inl rfl) (pv 5))
      (pss_one (ps_if (pt_cmpR op_eq (pe_callB WP.c_len (by rfl) B.b_len (by decide +kernel) (WP.pa_consN (pv 2) pa_nil)) pe_int (nomark _)) (pss_one ps_break) pss_nil)))))))
      (pss_one (ps_ret pe_int))))), ?_⟩
    obtain ⟨xs, hx, hxl⟩ := hg.top
    have hn := ho.n
    obtain ⟨a0, ys0, hy0, hyl0, hya0, ha0⟩ := hg.row hs
    k_updF
    refine WP.ixT hy0 hya0 ?_
    k_updF
    refine WP.listT ha0 (fun R hR => ?_)
    have e1 : Same H (upd H R (.lst (WP.iL (MG.ed g s)))) := WP.same_new hR
    have r1 : (upd H R (.lst (WP.iL (MG.ed g s)))) R = some (.lst (WP.iL (MG.ed g s))) := upd_same
    generalize upd H R _ = H1 at e1 r1
    k_updF
    refine WP.listL (SqL.of r1) (fun S hS => ?_)
    have e2 : Same H1 (upd H1 S (.lst (WP.iL (MG.ed g s)))) := WP.same_new hS
    have s2 : (upd H1 S (.lst (WP.iL (MG.ed g s)))) S = some (.lst (WP.iL (MG.ed g s))) := upd_same
    have nRS : R ≠ S := ne_of_none r1 hS
    have hSH := e1.free hS
    generalize upd H1 S _ = H2 at e2 s2
    have r2 := e2 _ _ r1
    have e2 := e1.trans e2
    clear e1 r1 hS hy0 ha0
    k_updF
    refine WP.lenT (WP.sqt e2 hx) ?_
    k_updF
    refine ⟨_, rfl, by omega, by omega, for_range (lo := 0) (n := _) (fun i σ' H' => Same H H' ∧ ∃ (R : Addr) (re se : List Nat) (z4 z5 z6 z7 : Option V), σ' = [some (.ref p), some (.int (s : Int)), some (.ref R), some (.ref S), z4, z5, z6, z7] ∧
        H' R = some (.lst (WP.iL re)) ∧ R ≠ S ∧ H' S = some (.lst (WP.iL se)) ∧ MG.Lv g s re se i)
      ⟨e2, R, MG.ed g s, MG.ed g s, _, _, _, _, rfl, r2, nRS, s2, MG.Lv.init ho.ok (hnd s)⟩ ?_ ?_⟩
    · clear e2 r2 s2 nRS hR
      rintro i σ' H3 hi ⟨e3, R, re, se, z4, z5, z6, z7, rfl, hRx, nRS, hSx, hL⟩
      rw [Int.toNat_natCast, hxl] at hi
      rw [Int.zero_add]
      have hsl : se.length ≤ g.length := MG.nodup_len hL.nd hL.lt
      k_updF
      refine WP.inNL (SqL.of hRx) ?_
      k_updF
      refine WP.br (fun c => ?_) (fun c => ?_)
      · k_updF
        rw [show ((i : Nat) : Int) + 1 = ((i + 1 : Nat) : Int) by omega]
        exact k (i + 1) _ e3 (.inr ⟨i, hi, rfl, (hL.found c).1, (hL.found c).2⟩)
      k_updF
      refine ⟨Nat.zero_le _, fun M hM => ?_⟩
      have e4 : Same H3 (upd H3 M (.lst [])) := WP.same_new hM
      have m4 : (upd H3 M (.lst [])) M = some (.lst (WP.iL [])) := upd_same
      have nRM : R ≠ M := ne_of_none hRx hM
      have nSM : S ≠ M := ne_of_none hSx hM
      have hMH := e3.free hM
      generalize upd H3 M _ = H4 at e4 m4
      have hRx := e4 _ _ hRx
      have hSx := e4 _ _ hSx
      have e4 := e3.trans e4
      clear e3 hM
      k_updF
      refine ⟨R, rfl, ⟨_, SqL.of hRx⟩, for_list (K := K) (a := R) (xs := WP.iL re) (fun j σ' H' => Same H H' ∧ H' R = some (.lst (WP.iL re)) ∧ ∃ (mo : List Nat) (z6 z7 : Option V), σ' = [some (.ref p), some (.int (s : Int)), some (.ref R), some (.ref S), some (.int (i : Int)), some (.ref M), z6, z7] ∧
          H' S = some (.lst (WP.iL (se ++ mo))) ∧ H' M = some (.lst (WP.iL mo)) ∧ mo.Nodup ∧ ∀ y, y ∈ mo ↔ y ∉ se ∧ ∃ x ∈ re.take j, y ∈ MG.ed g x)
        ⟨e4, hRx, [], _, _, rfl, by rw [List.append_nil]; exact hSx, m4, List.nodup_nil, fun y => ⟨fun h => (by cases h), fun ⟨_, x, h, _⟩ => by rw [List.take_zero] at h; cases h⟩⟩ (fun j σ' H' _ h => SqL.of h.2.1) ?_ ?_⟩
      · clear e4 hRx hSx m4
        rintro j y σ' H5 hjx ⟨e5, hRx, mo, z6, z7, rfl, hSx, hMx, hmn, hm⟩
        rw [List.getElem?_map] at hjx
        obtain ⟨u, hu, rfl⟩ : ∃ u : Nat, re[j]? = some u ∧ V.int (u : Int) = y := by
          cases e : re[j]? with
          | none => rw [e] at hjx; cases hjx
          | some u => rw [e] at hjx; exact ⟨u, rfl, Option.some.inj hjx⟩
        have hun := hL.lt u (hL.sub u (List.mem_of_getElem? hu))
        have et : re.take (j + 1) = re.take j ++ [u] := by rw [List.take_succ, hu]; rfl
        obtain ⟨a, ys, hy, hyl, hya, ha⟩ := (hg.same e5).row hun
        k_updF
        refine WP.ixT hy hya ?_
        refine ⟨a, rfl, ⟨_, ha⟩, for_tup (K := K) (a := a) (xs := WP.iL (MG.ed g u)) (fun l σ' H' => Same H H' ∧ SqT K H' a (WP.iL (MG.ed g u)) ∧ H' R = some (.lst (WP.iL re)) ∧ ∃ (mo : List Nat) (z7 : Option V), σ' = [some (.ref p), some (.int (s : Int)), some (.ref R), some (.ref S), some (.int (i : Int)), some (.ref M), some (.int (u : Int)), z7] ∧
            H' S = some (.lst (WP.iL (se ++ mo))) ∧ H' M = some (.lst (WP.iL mo)) ∧ mo.Nodup ∧ ∀ y, y ∈ mo ↔ y ∉ se ∧ ((∃ x ∈ re.take j, y ∈ MG.ed g x) ∨ y ∈ (MG.ed g u).take l))
          ⟨e5, ha, hRx, mo, _, rfl, hSx, hMx, hmn, fun y => by rw [hm y, List.take_zero]; simp⟩ (fun l σ' H' _ h => h.2.1) ?_ ?_⟩
        · clear e5 ha hRx hSx hMx hmn hm
          rintro l y σ' H6 hlx ⟨e6, ha, hRx, mo, z7, rfl, hSx, hMx, hmn, hm⟩
          rw [List.getElem?_map] at hlx
          obtain ⟨w, hw, rfl⟩ : ∃ w : Nat, (MG.ed g u)[l]? = some w ∧ V.int (w : Int) = y := by
            cases e : (MG.ed g u)[l]? with
            | none => rw [e] at hlx; cases hlx
            | some w => rw [e] at hlx; exact ⟨w, rfl, Option.some.inj hlx⟩
          have hwn := ho.ok u w (List.mem_of_getElem? hw)
          have et2 : (MG.ed g u).take (l + 1) = (MG.ed g u).take l ++ [w] := by rw [List.take_succ, hw]; rfl
          have hml : mo.length ≤ g.length := MG.nodup_len hmn fun y hy => by
            obtain ⟨_, h⟩ := (hm y).mp hy
            rcases h with ⟨x, _, h⟩ | h
            · exact ho.ok x y h
            · exact ho.ok u y (List.mem_of_mem_take h)
          k_updF
          refine WP.notInNL (SqL.of hSx) ?_
          k_updF
          refine WP.brN (fun c1 => ?_) (fun c1 => ?_)
          · have hws : w ∉ se := fun z => c1 (List.mem_append.mpr (.inl z))
            have hwm : w ∉ mo := fun z => c1 (List.mem_append.mpr (.inr z))
            k_updF
            refine WP.tyL (SqL.of hSx) ?_
            k_updF
            refine WP.appL hSx (by rw [List.length_map, List.length_append, sizeLine_eq]; omega) ?_
            rw [WP.app_iL]
            k_updF
            refine WP.tyL (xs := WP.iL mo) (SqL.of (by rw [upd_ne (Ne.symm nSM)]; exact hMx)) ?_
            k_updF
            refine WP.appL (xs := WP.iL mo) (by rw [upd_ne (Ne.symm nSM)]; exact hMx) (by rw [List.length_map, sizeLine_eq]; omega) ?_
            rw [WP.app_iL]
            refine ⟨WP.same_mut (WP.same_mut e6 hSH) hMH, ?_, by rw [upd_ne nRM, upd_ne nRS]; exact hRx, mo ++ [w], _, rfl, by rw [upd_ne nSM, upd_same, List.append_assoc], upd_same, ?_, fun y => ?_⟩
            · refine WP.sqtX (d := M) (ys := WP.iL mo) WP.Sx.upd (by rw [upd_ne (Ne.symm nSM)]; exact hMx) ?_
              exact WP.sqtX (d := S) WP.Sx.upd hSx ha
            · rw [List.nodup_append]
              exact ⟨hmn, by simp, fun x hx y hy => by rw [List.mem_singleton.mp hy]; exact fun z : x = w => hwm (by rw [← z]; exact hx)⟩
            · rw [List.mem_append, hm y, et2, List.mem_append (s := (MG.ed g u).take l)]
              refine ⟨fun h => ?_, fun ⟨h1, h2⟩ => ?_⟩
              · rcases h with ⟨h1, h2⟩ | h
                · exact ⟨h1, h2.imp id .inl⟩
                · have := List.mem_singleton.mp h
                  subst this
                  exact ⟨hws, .inr (.inr List.mem_cons_self)⟩
              · rcases h2 with h2 | h2 | h2
                · exact .inl ⟨h1, .inl h2⟩
                · exact .inl ⟨h1, .inr h2⟩
                · exact .inr h2
          · k_updF
            refine ⟨e6, ha, hRx, mo, _, rfl, hSx, hMx, hmn, fun y => ?_⟩
            rw [hm y, et2, List.mem_append (s := (MG.ed g u).take l)]
            refine ⟨fun h => ⟨h.1, h.2.imp id .inl⟩, fun ⟨h1, h2⟩ => ⟨h1, ?_⟩⟩
            rcases h2 with h2 | h2 | h2
            · exact .inl h2
            · exact .inr h2
            · have := List.mem_singleton.mp h2
              subst this
              rcases List.mem_append.mp c1 with z | z
              · exact absurd z h1
              · exact ((hm y).mp z).2
        rintro σ' H6 ⟨e6, ha, hRx, mo, z7, rfl, hSx, hMx, hmn, hm⟩
        rw [List.length_map, List.take_length] at hm
        refine ⟨e6, hRx, mo, _, _, rfl, hSx, hMx, hmn, fun y => ?_⟩
        rw [hm y, et]
        refine ⟨fun ⟨h1, h2⟩ => ⟨h1, ?_⟩, fun ⟨h1, x, h2, h3⟩ => ⟨h1, ?_⟩⟩
        · rcases h2 with ⟨x, h2, h3⟩ | h2
          · exact ⟨x, List.mem_append.mpr (.inl h2), h3⟩
          · exact ⟨u, List.mem_append.mpr (.inr List.mem_cons_self), h2⟩
        · rcases List.mem_append.mp h2 with z | z
          · exact .inl ⟨x, z, h3⟩
          · rw [List.mem_singleton.mp z] at h3; exact .inr h3
      clear e4 hRx hSx m4
      rintro σ' H5 ⟨e5, hRx, mo, z6, z7, rfl, hSx, hMx, hmn, hm⟩
      rw [List.length_map, List.take_length] at hm
      k_updF
      refine WP.lenL (SqL.of hMx) ?_
      rw [List.length_map]
      k_updF
      refine WP.br (fun c1 => ?_) (fun c1 => ?_)
      · have e0 : mo = [] := List.eq_nil_of_length_eq_zero (by omega)
        k_updF
        exact k 0 _ e5 (.inl ⟨rfl, hL.none c hm e0⟩)
      · k_updF
        exact ⟨e5, M, mo, se ++ mo, _, _, _, _, rfl, hMx, Ne.symm nSM, hSx, hL.next ho.ok c hmn hm fun z => c1 (by rw [z]; rfl)⟩
    rintro σ' H3 ⟨e3, R, re, se, z4, z5, z6, z7, rfl, hRx, nRS, hSx, hL⟩
    rw [Int.toNat_natCast, hxl] at hL
    exact (hL.full (by omega)).elim
end
abbrev s__law_same : Stmt := top 9
abbrev N__law_same : List Str := ["actual", "expected", "k"]
theorem sc__law_same : FnScope N__law_same ["actual", "expected"] (defScope s__law_same) := ⟨rfl, rfl, rfl, by decide +kernel, rfl, by decide +kernel, by decide +kernel⟩
/-- two values that are the same, d tuples deep at most -/
inductive EqV (K : PySem.W.Frag) (H : Hp) : Nat → V → V → Prop where
  | int {d : Nat} (i : Int) : EqV K H d (.int i) (.int i)
  | non {d : Nat} : EqV K H d .non .non
  | bl {d : Nat} (b : Bool) : EqV K H d (.bl b) (.bl b)
  | str {d : Nat} (z : Str) (h : WP.SOk z) : EqV K H d (.str z) (.str z)
  | tup {d : Nat} {p q : Addr} {xs ys : List V} (hp : SqT K H p xs) (hq : SqT K H q ys) (hl : xs.length = ys.length) (hz : ys.length ≤ 1000)
      (h : ∀ (i : Nat) x y, xs[i]? = some x → ys[i]? = some y → EqV K H d x y) : EqV K H (d + 1) (.ref p) (.ref q)
theorem pw_nil {K : PySem.W.Frag} {H : Hp} {d : Nat} : ∀ (i : Nat) x y, ([] : List V)[i]? = some x → ([] : List V)[i]? = some y → EqV K H d x y := fun i x y h _ => by simp at h
theorem pw_cons {K : PySem.W.Frag} {H : Hp} {d : Nat} {x y : V} {xs ys : List V} (h : EqV K H d x y) (t : ∀ (i : Nat) x y, xs[i]? = some x → ys[i]? = some y → EqV K H d x y) : ∀ (i : Nat) x' y', (x :: xs)[i]? = some x' → (y :: ys)[i]? = some y' → EqV K H d x' y' := fun i x' y' h1 h2 => by
  cases i with
  | zero => cases h1; cases h2; exact h
  | succ i => exact t i x' y' (by simpa using h1) (by simpa using h2)
def sp__law_same (K : PySem.W.Frag) (mg : WP.MG) : Nat → Sp
  | 0 => fun _ _ _ _ => False
  | n + 1 => fun vs H Q _ => ∃ x y, vs = [x, y] ∧ EqV K H n x y ∧ Q (.bl true) H
section
variable {P : Program} {w : World} {K : PySem.W.Frag} {mg : Str → Option Value} {base : Heap}
theorem ok__law_same {f : Addr} {fd : FuncData} (F : Fun K "_law_same" "_law_same" s__law_same f fd) (B : Blt w K mg)  {nn : Nat} (c__law_same : WP.Callee P w K mg base CX0 (0 + nn) "_law_same" ["actual", "expected"] (sp__law_same K mg nn)) : FnOk P w K mg base CX0 (0 + nn + 1) f fd ["actual", "expected"] (sp__law_same K mg (nn + 1)) := by
  refine F.ok sc__law_same (fun vs H Q E h => ?_) (fun cdv A outer s H vs Q E hr h => ?_)
  · first | (obtain ⟨_, rfl, _⟩ := h; rfl) | (obtain ⟨_, _, rfl, _⟩ := h; rfl) | (obtain ⟨_, _, _, rfl, _⟩ := h; rfl) | (obtain ⟨_, _, _, _, rfl, _⟩ := h; rfl) | (obtain ⟨_, _, _, _, _, rfl, _⟩ := h; rfl) | (obtain ⟨_, _, _, _, _, _, rfl, _⟩ := h; rfl) | (obtain ⟨_, _, _, _, _, _, _, rfl, _⟩ := h; rfl) | (obtain ⟨_, _, _, _, _, _, _, _, rfl, _⟩ := h; rfl) | (obtain ⟨rfl, _⟩ := h; rfl)
  · obtain ⟨x, y, rfl, he, k⟩ := h
    refine ⟨_, (pss_cons (ps_if (pt_val (pe_callB call_isi (by rfl) B.b_isinstance (by decide +kernel) (pa_cons (pv 1) (pa_cons (pe_bltn (v := .ty "tuple") rfl B.b_tuple (by decide +kernel) rfl) pa_nil)))) (pss_cons (ps_if (PW.pt (pw_or (pt_not (pt_val (pe_callB call_isi (by rfl) B.b_isinstance (by decide +kernel) (pa_cons (pv 0) (pa_cons (pe_bltn (v := .ty "tuple") rfl B.b_tuple (by decide +kernel) rfl) pa_nil))))) (pw_or1 (pt_cmpR op_ne (pe_callB WP.c_len (by rfl) B.b_len (by decide +kernel) (WP.pa_consN (pv 0) pa_nil)) (pe_callB WP.c_len (by rfl) B.b_len (by decide +kernel) (WP.pa_consN (pv 1) pa_nil)) (nomark _))))) (pss_one (ps_ret pe_bl)) pss_nil)
      (pss_cons (ps_for PassesOwn.never rfl (pi_range1 rfl B.b_range (WP.pa_consN (pe_callB WP.c_len (by rfl) B.b_len (by decide +kernel) (WP.pa_consN (pv 1) pa_nil)) pa_nil)) (pg_name (i := 2) sc__law_same.nd rfl (Or.inl rfl)) (pss_one (ps_if (pt_not (pt_val (WP.pe_callC (hl := by omega) c__law_same hr rfl pass0 (WP.pa_consN (pe_ix ix_tup (pv 0) (pv 2) (fun _ _ => rfl)) (WP.pa_consN (pe_ix ix_tup (pv 1) (pv 2) (fun _ _ => rfl)) pa_nil))))) (pss_one (ps_ret pe_bl)) pss_nil)))
      (pss_one (ps_ret pe_bl)))) pss_nil)
      (pss_cons (ps_if (pt_val (pe_callB call_isi (by rfl) B.b_isinstance (by decide +kernel) (pa_cons (pv 1) (pa_cons (pe_bltn (v := .ty "str") rfl B.b_str (by decide +kernel) rfl) pa_nil)))) (pss_one (ps_ret (pe_and (pe_callB call_isi (by rfl) B.b_isinstance (by decide +kernel) (pa_cons (pv 0) (pa_cons (pe_bltn (v := .ty "str") rfl B.b_str (by decide +kernel) rfl) pa_nil))) (pe_one (pe_cmpR (op_eqD hr.units) (pv 0) (pv 1) (nomark _)))))) pss_nil)
      (pss_cons (ps_if (pt_cmpR op_isN (pv 1) pe_non (nomark _)) (pss_one (ps_ret (pe_cmpR op_isN (pv 0) pe_non (nomark _)))) pss_nil)
      (pss_cons (ps_if (PW.pt (pw_or (pt_val (pe_callB call_isi (by rfl) B.b_isinstance (by decide +kernel) (pa_cons (pv 1) (pa_cons (pe_bltn (v := .ty "bool") rfl B.b_bool (by decide +kernel) rfl) pa_nil)))) (pw_or1 (pt_val (pe_callB call_isi (by rfl) B.b_isinstance (by decide +kernel) (pa_cons (pv 0) (pa_cons (pe_bltn (v := .ty "bool") rfl B.b_bool (by decide +kernel) rfl) pa_nil))))))) (pss_one (ps_ret (pe_and (pe_callB call_isi (by rfl) B.b_isinstance (by decide +kernel) (pa_cons (pv 1) (pa_cons (pe_bltn (v := .ty "bool") rfl B.b_bool (by decide +kernel) rfl) pa_nil))) (pe_and (pe_callB call_isi (by rfl) B.b_isinstance (by decide +kernel) (pa_cons (pv 0) (pa_cons (pe_bltn (v := .ty "bool") rfl B.b_bool (by decide +kernel) rfl) pa_nil))) (pe_one (pe_cmpR (op_eqD hr.units) (pv 0) (pv 1) (nomark _))))))) pss_nil)
      (pss_one (ps_ret (pe_and (pe_callB call_isi (by rfl) B.b_isinstance (by decide +kernel) (pa_cons (pv 0) (pa_cons (pe_bltn (v := .ty "int") rfl B.b_int (by decide +kernel) rfl) pa_nil))) (pe_one (pe_cmpR (op_eqD hr.units) (pv 0) (pv 1) (nomark _)))))))))), ?_⟩
    cases he with
    | int i =>
      k_updF
      refine WP.isN (.base (.int _)) ?_
      k_updF
      refine WP.brF rfl ?_
      k_updF
      refine WP.isN (.base (.int _)) ?_
      k_updF
      refine WP.brF rfl ?_
      k_updF
      refine ⟨rfl, ?_⟩
      k_updF
      refine WP.brF (decide_eq_false fun z => nomatch z) ?_
      k_updF
      refine WP.isN (.base (.int _)) ?_
      k_updF
      refine WP.brF rfl ?_
      k_updF
      refine WP.isN (.base (.int _)) ?_
      k_updF
      refine WP.brF rfl ?_
      k_updF
      refine WP.isY (.base (.int _)) ?_
      k_updF
      refine WP.brT rfl ?_
      k_updF
      refine WP.eqD (.int _) (.int _) ?_
      rw [SeqAt.eqv_refl _ (by rfl)]
      exact k
    | non =>
      k_updF
      refine WP.isN (.base .non) ?_
      k_updF
      refine WP.brF rfl ?_
      k_updF
      refine WP.isN (.base .non) ?_
      k_updF
      refine WP.brF rfl ?_
      k_updF
      refine ⟨rfl, ?_⟩
      k_updF
      refine WP.brT rfl ?_
      k_updF
      refine ⟨rfl, ?_⟩
      k_updF
      exact k
    | bl b =>
      k_updF
      refine WP.isN (.base (.bl _)) ?_
      k_updF
      refine WP.brF rfl ?_
      k_updF
      refine WP.isN (.base (.bl _)) ?_
      k_updF
      refine WP.brF rfl ?_
      k_updF
      refine ⟨rfl, ?_⟩
      k_updF
      refine WP.brF (decide_eq_false fun z => nomatch z) ?_
      k_updF
      refine WP.isY (.base (.bl _)) ?_
      k_updF
      refine WP.brT rfl ?_
      k_updF
      refine WP.brT rfl ?_
      k_updF
      refine WP.isY (.base (.bl _)) ?_
      k_updF
      refine WP.brT rfl ?_
      k_updF
      refine WP.isY (.base (.bl _)) ?_
      k_updF
      refine WP.brT rfl ?_
      k_updF
      refine WP.eqD (.bl _) (.bl _) ?_
      rw [SeqAt.eqv_refl _ (by rfl)]
      exact k
    | str z hz =>
      k_updF
      refine WP.isN (.base (.str _)) ?_
      k_updF
      refine WP.brF rfl ?_
      k_updF
      refine WP.isY (.base (.str _)) ?_
      k_updF
      refine WP.brT rfl ?_
      k_updF
      refine WP.isY (.base (.str _)) ?_
      k_updF
      refine WP.brT rfl ?_
      k_updF
      refine WP.eqD (.str _) (.str _) ?_ hz.sh hz.sh
      rw [SeqAt.eqv_refl _ hz]
      exact k
    | @tup d p q xs ys hp hq hl hz he =>
      k_updF
      refine WP.isY (WP.tyT hq) ?_
      k_updF
      refine WP.brT rfl ?_
      k_updF
      refine WP.isY (WP.tyT hp) ?_
      k_updF
      refine WP.brF rfl ?_
      k_updF
      refine WP.lenT hp ?_
      k_updF
      refine WP.lenT hq ?_
      k_updF
      refine WP.brF (by rw [hl]; simp) ?_
      k_updF
      refine WP.lenT hq ?_
      k_updF
      refine ⟨_, rfl, by omega, by omega, for_range (lo := 0) (n := _) (fun i σ' H' => H' = H ∧ ∃ z, σ' = [some (.ref p), some (.ref q), z]) ⟨rfl, none, rfl⟩ ?_ ?_⟩
      · rintro i σ' H' hi ⟨rfl, z, rfl⟩
        rw [Int.toNat_natCast] at hi
        rw [Int.zero_add]
        have ex := List.getElem?_eq_getElem (l := xs) (i := i) (by omega)
        have ey := List.getElem?_eq_getElem (l := ys) (i := i) (by omega)
        k_updF
        refine WP.ixT hp (atI_nat ex) ?_
        k_updF
        refine WP.ixT hq (atI_nat ey) ?_
        k_updF
        refine ⟨_, _, rfl, he i _ _ ex ey, ?_⟩
        k_updF
        refine WP.brF rfl ?_
        k_updF
        exact ⟨rfl, _, rfl⟩
      · rintro σ' H' ⟨rfl, z, rfl⟩
        k_updF
        exact k
end
abbrev s_law : Stmt := top 12
abbrev N_law : List Str := ["script", "draws", "graph", "found", "start", "size", "k"]
theorem sc_law : FnScope N_law ["script"] (defScope s_law) := ⟨rfl, rfl, rfl, by decide +kernel, rfl, by decide +kernel, by decide +kernel⟩
def sp_law (K : PySem.W.Frag) : Sp := fun vs H Q _ => ∃ (a : Addr) (ns : List Int), vs = [.ref a] ∧ SqL K H a (ns.map V.int) ∧ ns.length ≤ 63 ∧ ∀ H', Q (.bl true) H'
section
variable {P : Program} {w : World} {K : PySem.W.Frag} {mg : Str → Option Value} {base : Heap}
theorem ok_law {f : Addr} {fd : FuncData} (F : Fun K "law" "law" s_law f fd) (B : Blt w K mg) (c__law_draws : WP.Callee P w K mg base CX0 1 "_law_draws" ["script"] (sp__law_draws K mg)) (c__law_graph : WP.Callee P w K mg base CX0 2 "_law_graph" ["draws"] (sp__law_graph K mg)) (c_circle : WP.Callee P w K mg base CX0 3 "circle" ["graph"] (sp_circle K mg)) (c__law_way_back : WP.Callee P w K mg base CX0 1 "_law_way_back" ["graph", "start"] (sp__law_way_back K mg)) (c__law_same : WP.Callee P w K mg base CX0 3 "_law_same" ["actual", "expected"] (sp__law_same K mg 3)) : FnOk P w K mg base CX0 4 f fd ["script"] (sp_law K) := by
  refine F.ok sc_law (fun vs H Q E h => ?_) (fun cdv A outer s H vs Q E hr h => ?_)
  · first | (obtain ⟨_, rfl, _⟩ := h; rfl) | (obtain ⟨_, _, rfl, _⟩ := h; rfl) | (obtain ⟨_, _, _, rfl, _⟩ := h; rfl) | (obtain ⟨_, _, _, _, rfl, _⟩ := h; rfl) | (obtain ⟨_, _, _, _, _, rfl, _⟩ := h; rfl) | (obtain ⟨_, _, _, _, _, _, rfl, _⟩ := h; rfl) | (obtain ⟨_, _, _, _, _, _, _, rfl, _⟩ := h; rfl) | (obtain ⟨_, _, _, _, _, _, _, _, rfl, _⟩ := h; rfl) | (obtain ⟨rfl, _⟩ := h; rfl)
  · obtain ⟨a, ns, rfl, ha, hl, k⟩ := h
    refine ⟨_, (pss_cons (ps_set (i := 1) sc_law.nd rfl (Or.inl rfl) (WP.pe_callC c__law_draws hr rfl pass0 (WP.pa_consN (pv 0) pa_nil)))
      (pss_cons (ps_set (i := 2) sc_law.nd rfl (Or.inl rfl) (WP.pe_callC c__law_graph hr rfl pass0 (WP.pa_consN (pv 1) pa_nil)))
      (pss_cons (ps_set (i := 3) sc_law.nd rfl (Or.inl rfl) (WP.pe_callC c_circle hr rfl pass0 (WP.pa_consN (pv 2) pa_nil)))
      (pss_cons (ps_if (pt_not (pt_val (pe_callB call_isi (by rfl) B.b_isinstance (by decide +kernel) (pa_cons (pv 3) (pa_cons (pe_bltn (v := .ty "tuple") rfl B.b_tuple (by decide +kernel) rfl) pa_nil))))) (pss_one (ps_ret pe_bl)) pss_nil)
      (pss_cons (ps_for PassesOwn.never rfl (pi_range1 rfl B.b_range (WP.pa_consN (pe_callB WP.c_len (by rfl) B.b_len (by decide +kernel) (WP.pa_consN (pv 2) pa_nil)) pa_nil)) (pg_name (i := 4) sc_law.nd rfl (Or.inl rfl)) (pss_cons (ps_set (i := 5) sc_law.nd rfl (Or.inl rfl) (WP.pe_callC c__law_way_back hr rfl pass0 (WP.pa_consN (pv 2) (WP.pa_consN (pv 4) pa_nil))))
      (pss_one (ps_if (pt_cmpR op_gt (pv 5) pe_int (nomark _)) (pss_cons (ps_if (PW.pt (pw_or (pt_cmpR op_ne (pe_callB WP.c_len (by rfl) B.b_len (by decide +kernel) (WP.pa_consN (pv 3) pa_nil)) (pv 5) (nomark _)) (pw_or1 (pt_not (pt_val (WP.pe_callC c__law_same hr rfl pass0 (WP.pa_consN (pe_ix ix_tup (pv 3) pe_int (fun _ _ => rfl)) (WP.pa_consN (pv 4) pa_nil)))))))) (pss_one (ps_ret pe_bl)) pss_nil)
      (pss_cons (ps_for PassesOwn.never rfl (pi_range1 rfl B.b_range (WP.pa_consN (pv 5) pa_nil)) (pg_name (i := 6) sc_law.nd rfl (Or.inl rfl)) (pss_cons (ps_if (PW.pt (pw_or (pt_not (pt_val (pe_callB call_isi (by rfl) B.b_isinstance (by decide +kernel) (pa_cons (pe_ix ix_tup (pv 3) (pv 6) (fun _ _ => rfl)) (pa_cons (pe_bltn (v := .ty "int") rfl B.b_int (by decide +kernel) rfl) pa_nil))))) (pw_or1 (pt_val (pe_callB call_isi (by rfl) B.b_isinstance (by decide +kernel) (pa_cons (pe_ix ix_tup (pv 3) (pv 6) (fun _ _ => rfl)) (pa_cons (pe_bltn (v := .ty "bool") rfl B.b_bool (by decide +kernel) rfl) pa_nil))))))) (pss_one (ps_ret pe_bl)) pss_nil)
      (pss_one (ps_if (PW.pt (pw_or (pt_cmpR op_lt (pe_ix ix_tup (pv 3) (pv 6) (fun _ _ => rfl)) pe_int (nomark _)) (pw_or (pt_cmpR op_ge (pe_ix ix_tup (pv 3) (pv 6) (fun _ _ => rfl)) (pe_callB WP.c_len (by rfl) B.b_len (by decide +kernel) (WP.pa_consN (pv 2) pa_nil)) (nomark _)) (pw_or1 (pt_cmpR op_notIn_seq (pe_ix ix_tup (pv 3) (pe_op op_mod (pe_callTy WP.c_int1 (by rfl) B.b_int (by decide +kernel) (WP.pa_consN (pe_op op_add (pv 6) pe_int) pa_nil)) (pv 5)) (fun _ _ => rfl)) (pe_ix ix_tup (pv 2) (pe_ix ix_tup (pv 3) (pv 6) (fun _ _ => rfl)) (fun _ _ => rfl)) rfl))))) (pss_one (ps_ret pe_bl)) pss_nil))))
      (pss_one (ps_ret pe_bl)))) pss_nil))))
      (pss_one (ps_ret (pe_cmpR op_eq (pe_callB WP.c_len (by rfl) B.b_len (by decide +kernel) (WP.pa_consN (pv 3) pa_nil)) pe_int (nomark _))))))))), ?_⟩
    k_updF
    refine ⟨a, ns, rfl, ha, fun d z H1 _ _ _ e1 hd => ?_⟩
    k_updF
    refine ⟨d, z, rfl, hd, fun p g H2 hg ho hn40 hem hnd s2 hd2 => ?_⟩
    clear e1 s2 hd hd2 ha
    obtain ⟨xs, hx, hxl⟩ := hg.top
    k_updF
    refine ⟨p, g, rfl, hg, ho, hnd, fun c q H3 e3 hq hc => ?_⟩
    k_updF
    refine WP.isY (WP.tyT (SqT.of hq)) ?_
    refine ⟨_, rfl, WP.brF rfl ?_⟩
    have hn := ho.n
    k_updF
    refine WP.lenT (WP.sqt e3 hx) ?_
    k_updF
    refine ⟨_, rfl, by omega, by omega, for_range (lo := 0) (n := _) (fun i σ' H' => Same H3 H' ∧ (∀ v < i, ¬ MG.Cyc g v) ∧ ∃ z4 z5 z6, σ' = [some (.ref a), some (.ref d), some (.ref p), some (.ref q), z4, z5, z6]) ⟨.refl _, fun v h => absurd h (Nat.not_lt_zero _), _, _, _, rfl⟩ ?_ ?_⟩
    · rintro i σ' H4 hi ⟨e4, hno, z4, z5, z6, rfl⟩
      rw [Int.toNat_natCast, hxl] at hi
      rw [Int.zero_add]
      k_updF
      refine ⟨p, g, i, rfl, hg.same (e3.trans e4), ho, hnd, hi, fun n H5 e5 hnn => ?_⟩
      have e5 := e4.trans e5
      have hq := e5 _ _ hq
      k_updF
      rcases hnn with ⟨rfl, hcy⟩ | ⟨m, hml, rfl, hw, hmin⟩
      · refine WP.brF rfl ?_
        k_updF
        refine ⟨e5, fun v hv => ?_, _, _, _, rfl⟩
        rcases Nat.lt_succ_iff_lt_or_eq.mp hv with z | z
        · exact hno v z
        · rw [z]; exact hcy
      · obtain ⟨s, hs, hcs, hsl, hci⟩ := hc.resolve_left fun z => z.2 i hi hw.cyc
        have hsi : s = i := by
          rcases Nat.lt_trichotomy s i with z | z | z
          · exact absurd hcs (hno s z)
          · exact z
          · exact absurd hw.cyc (hsl i z)
        subst hsi
        have hcl : c.length = m + 1 := by
          have h1 := hci.mn m hw
          have hp := (List.getElem?_eq_some_iff.mp hci.hd).1
          have h2 := hci.w
          rw [show c.length = (c.length - 1) + 1 by omega] at h2
          have := hmin _ h2
          omega
        refine WP.brT (decide_eq_true (by omega)) ?_
        k_updF
        refine WP.lenT (SqT.of hq) ?_
        rw [List.length_map, hcl]
        k_updF
        refine WP.brN (fun c => absurd rfl c) (fun _ => ?_)
        k_updF
        refine WP.ixT (SqT.of hq) (atI_nat (j := 0) (by rw [List.getElem?_map, hci.hd]; rfl)) ?_
        k_updF
        refine ⟨_, _, rfl, .int _, ?_⟩
        refine ⟨_, rfl, WP.brF rfl ?_⟩
        k_updF
        refine ⟨_, rfl, by omega, by omega, for_range (lo := 0) (n := _) (fun j σ' H' => Same H3 H' ∧ ∃ z6, σ' = [some (.ref a), some (.ref d), some (.ref p), some (.ref q), some (.int (s : Int)), some (.int ((m + 1 : Nat) : Int)), z6]) ⟨e5, _, rfl⟩ ?_ ?_⟩
        · clear e5 hq
          rintro j σ' H6 hj ⟨e6, z6, rfl⟩
          rw [Int.toNat_natCast] at hj
          rw [Int.zero_add]
          have hq := e6 _ _ (by assumption : H3 q = some (.tup (WP.iL c)))
          have hjc : c[j]? = some c[j] := List.getElem?_eq_getElem (by omega)
          have hjn := hci.lt _ (List.mem_of_getElem? hjc)
          have hja : atI (WP.iL c) (j : Int) = some (.int ((c[j] : Nat) : Int)) := atI_nat (by rw [List.getElem?_map, hjc]; rfl)
          have hnx : ∃ w, atI (WP.iL c) (((j : Int) + 1) % ((m + 1 : Nat) : Int)) = some (.int ((w : Nat) : Int)) ∧ w ∈ MG.ed g c[j] := by
            by_cases e : j = m
            · refine ⟨s, ?_, hci.cl _ (by rw [show c.length - 1 = j by omega]; exact hjc)⟩
              rw [show ((j : Int) + 1) % ((m + 1 : Nat) : Int) = ((0 : Nat) : Int) by rw [e, show ((m : Int) + 1) = ((m + 1 : Nat) : Int) by omega, Int.emod_self]; rfl]
              exact atI_nat (by rw [List.getElem?_map, hci.hd]; rfl)
            · have h1 : c[j + 1]? = some c[j + 1] := List.getElem?_eq_getElem (by omega)
              refine ⟨c[j + 1], ?_, hci.st j _ _ hjc h1⟩
              rw [Int.emod_eq_of_lt (by omega) (by omega), show ((j : Int) + 1) = ((j + 1 : Nat) : Int) by omega]
              exact atI_nat (by rw [List.getElem?_map, h1]; rfl)
          generalize c[j] = u at hjn hja hnx
          clear hjc
          obtain ⟨w, hwa, hwm⟩ := hnx
          obtain ⟨b, ys, hy, hyl, hya, hb⟩ := (hg.same (e3.trans e6)).row hjn
          k_updF
          refine WP.ixT (SqT.of hq) hja ?_
          k_updF
          refine WP.isY (.base (.int _)) ?_
          k_updF
          refine WP.brF rfl ?_
          k_updF
          refine WP.ixT (SqT.of hq) hja ?_
          k_updF
          refine WP.isN (.base (.int _)) ?_
          k_updF
          refine WP.brF rfl ?_
          k_updF
          refine WP.ixT (SqT.of hq) hja ?_
          k_updF
          refine WP.brF (decide_eq_false (by omega)) ?_
          k_updF
          refine WP.ixT (SqT.of hq) hja ?_
          k_updF
          refine WP.lenT (WP.sqt (e3.trans e6) hx) ?_
          rw [hxl]
          k_updF
          refine WP.brF (decide_eq_false (by omega)) ?_
          k_updF
          refine WP.intI ?_
          k_updF
          refine WP.iC (show (0 : Int) < ((m + 1 : Nat) : Int) by omega) ?_
          refine WP.ixT (SqT.of hq) hwa ?_
          k_updF
          refine WP.ixT (SqT.of hq) hja ?_
          refine WP.ixT hy hya ?_
          refine WP.notInNT hb ?_
          k_updF
          refine WP.brN (fun z => absurd hwm z) (fun _ => ?_)
          k_updF
          exact ⟨e6, _, rfl⟩
        rintro σ' H6 ⟨e6, z6, rfl⟩
        k_updF
        exact k _
    rintro σ' H4 ⟨e4, hno, z4, z5, z6, rfl⟩
    rw [Int.toNat_natCast, hxl] at hno
    have hq := e4 _ _ hq
    have hc0 : c = [] := by
      rcases hc with h | ⟨s, h1, h2, _⟩
      · exact h.1
      · exact absurd h2 (hno s h1)
    subst hc0
    k_updF
    refine WP.lenT (SqT.of hq) ?_
    k_updF
    exact k _
end
theorem all_mk {l : PySem.W.OpenLaw} {w : World} {K : PySem.W.Frag} {h : Heap} {mg : Str → Option Value} {fa : Addr} (X : K.In h) (G : h.Ns mainGlobals mg) (hfa : mg "law" = some (.ref fa))
    {fx0 : Addr} {odx0 anx0 : Option Addr} {slx0 : Array (Option Value)} {ocx0 kVx0 dcx0 pmx0 cdx0 ctx0 : Value}
    (ax0 : PySem.W.nsIn K mainGlobals "_law_draws" = some (some (.ref fx0))) (lx0 : K.lookup fx0 = some ⟨ocx0, odx0, .func (PySem.W.fnOf "_law_draws" "_law_draws" (defArgs s__law_draws) (defBody s__law_draws) (defScope s__law_draws) .none kVx0 dcx0 pmx0 anx0 cdx0 ctx0), slx0⟩) (cx0 : PySem.W.codeIn K cdx0 "_law_draws" = true) (kx0 : PySem.W.keepIn K (.ref fx0) = true)
    {fx1 : Addr} {odx1 anx1 : Option Addr} {slx1 : Array (Option Value)} {ocx1 kVx1 dcx1 pmx1 cdx1 ctx1 : Value}
    (ax1 : PySem.W.nsIn K mainGlobals "_law_draw" = some (some (.ref fx1))) (lx1 : K.lookup fx1 = some ⟨ocx1, odx1, .func (PySem.W.fnOf "_law_draw" "_law_draw" (defArgs s__law_draw) (defBody s__law_draw) (defScope s__law_draw) .none kVx1 dcx1 pmx1 anx1 cdx1 ctx1), slx1⟩) (cx1 : PySem.W.codeIn K cdx1 "_law_draw" = true) (kx1 : PySem.W.keepIn K (.ref fx1) = true)
    {fx2 : Addr} {odx2 anx2 : Option Addr} {slx2 : Array (Option Value)} {ocx2 kVx2 dcx2 pmx2 cdx2 ctx2 : Value}
    (ax2 : PySem.W.nsIn K mainGlobals "_law_graph" = some (some (.ref fx2))) (lx2 : K.lookup fx2 = some ⟨ocx2, odx2, .func (PySem.W.fnOf "_law_graph" "_law_graph" (defArgs s__law_graph) (defBody s__law_graph) (defScope s__law_graph) .none kVx2 dcx2 pmx2 anx2 cdx2 ctx2), slx2⟩) (cx2 : PySem.W.codeIn K cdx2 "_law_graph" = true) (kx2 : PySem.W.keepIn K (.ref fx2) = true)
    {fx3 : Addr} {odx3 anx3 : Option Addr} {slx3 : Array (Option Value)} {ocx3 kVx3 dcx3 pmx3 cdx3 ctx3 : Value}
    (ax3 : PySem.W.nsIn K mainGlobals "_turned" = some (some (.ref fx3))) (lx3 : K.lookup fx3 = some ⟨ocx3, odx3, .func (PySem.W.fnOf "_turned" "_turned" (defArgs s__turned) (defBody s__turned) (defScope s__turned) .none kVx3 dcx3 pmx3 anx3 cdx3 ctx3), slx3⟩) (cx3 : PySem.W.codeIn K cdx3 "_turned" = true) (kx3 : PySem.W.keepIn K (.ref fx3) = true)
    {fx4 : Addr} {odx4 anx4 : Option Addr} {slx4 : Array (Option Value)} {ocx4 kVx4 dcx4 pmx4 cdx4 ctx4 : Value}
    (ax4 : PySem.W.nsIn K mainGlobals "_finish_order" = some (some (.ref fx4))) (lx4 : K.lookup fx4 = some ⟨ocx4, odx4, .func (PySem.W.fnOf "_finish_order" "_finish_order" (defArgs s__finish_order) (defBody s__finish_order) (defScope s__finish_order) .none kVx4 dcx4 pmx4 anx4 cdx4 ctx4), slx4⟩) (cx4 : PySem.W.codeIn K cdx4 "_finish_order" = true) (kx4 : PySem.W.keepIn K (.ref fx4) = true)
    {fx5 : Addr} {odx5 anx5 : Option Addr} {slx5 : Array (Option Value)} {ocx5 kVx5 dcx5 pmx5 cdx5 ctx5 : Value}
    (ax5 : PySem.W.nsIn K mainGlobals "_vertices_on_circles" = some (some (.ref fx5))) (lx5 : K.lookup fx5 = some ⟨ocx5, odx5, .func (PySem.W.fnOf "_vertices_on_circles" "_vertices_on_circles" (defArgs s__vertices_on_circles) (defBody s__vertices_on_circles) (defScope s__vertices_on_circles) .none kVx5 dcx5 pmx5 anx5 cdx5 ctx5), slx5⟩) (cx5 : PySem.W.codeIn K cdx5 "_vertices_on_circles" = true) (kx5 : PySem.W.keepIn K (.ref fx5) = true)
    {fx6 : Addr} {odx6 anx6 : Option Addr} {slx6 : Array (Option Value)} {ocx6 kVx6 dcx6 pmx6 cdx6 ctx6 : Value}
    (ax6 : PySem.W.nsIn K mainGlobals "_shortest_circle" = some (some (.ref fx6))) (lx6 : K.lookup fx6 = some ⟨ocx6, odx6, .func (PySem.W.fnOf "_shortest_circle" "_shortest_circle" (defArgs s__shortest_circle) (defBody s__shortest_circle) (defScope s__shortest_circle) .none kVx6 dcx6 pmx6 anx6 cdx6 ctx6), slx6⟩) (cx6 : PySem.W.codeIn K cdx6 "_shortest_circle" = true) (kx6 : PySem.W.keepIn K (.ref fx6) = true)
    {fx7 : Addr} {odx7 anx7 : Option Addr} {slx7 : Array (Option Value)} {ocx7 kVx7 dcx7 pmx7 cdx7 ctx7 : Value}
    (ax7 : PySem.W.nsIn K mainGlobals "circle" = some (some (.ref fx7))) (lx7 : K.lookup fx7 = some ⟨ocx7, odx7, .func (PySem.W.fnOf "circle" "circle" (defArgs s_circle) (defBody s_circle) (defScope s_circle) .none kVx7 dcx7 pmx7 anx7 cdx7 ctx7), slx7⟩) (cx7 : PySem.W.codeIn K cdx7 "circle" = true) (kx7 : PySem.W.keepIn K (.ref fx7) = true)
    {fx8 : Addr} {odx8 anx8 : Option Addr} {slx8 : Array (Option Value)} {ocx8 kVx8 dcx8 pmx8 cdx8 ctx8 : Value}
    (ax8 : PySem.W.nsIn K mainGlobals "_law_way_back" = some (some (.ref fx8))) (lx8 : K.lookup fx8 = some ⟨ocx8, odx8, .func (PySem.W.fnOf "_law_way_back" "_law_way_back" (defArgs s__law_way_back) (defBody s__law_way_back) (defScope s__law_way_back) .none kVx8 dcx8 pmx8 anx8 cdx8 ctx8), slx8⟩) (cx8 : PySem.W.codeIn K cdx8 "_law_way_back" = true) (kx8 : PySem.W.keepIn K (.ref fx8) = true)
    {fx9 : Addr} {odx9 anx9 : Option Addr} {slx9 : Array (Option Value)} {ocx9 kVx9 dcx9 pmx9 cdx9 ctx9 : Value}
    (ax9 : PySem.W.nsIn K mainGlobals "_law_same" = some (some (.ref fx9))) (lx9 : K.lookup fx9 = some ⟨ocx9, odx9, .func (PySem.W.fnOf "_law_same" "_law_same" (defArgs s__law_same) (defBody s__law_same) (defScope s__law_same) .none kVx9 dcx9 pmx9 anx9 cdx9 ctx9), slx9⟩) (cx9 : PySem.W.codeIn K cdx9 "_law_same" = true) (kx9 : PySem.W.keepIn K (.ref fx9) = true)
    {fx10 : Addr} {odx10 anx10 : Option Addr} {slx10 : Array (Option Value)} {ocx10 kVx10 dcx10 pmx10 cdx10 ctx10 : Value}
    (ax10 : PySem.W.nsIn K mainGlobals "law" = some (some (.ref fx10))) (lx10 : K.lookup fx10 = some ⟨ocx10, odx10, .func (PySem.W.fnOf "law" "law" (defArgs s_law) (defBody s_law) (defScope s_law) .none kVx10 dcx10 pmx10 anx10 cdx10 ctx10), slx10⟩) (cx10 : PySem.W.codeIn K cdx10 "law" = true) (kx10 : PySem.W.keepIn K (.ref fx10) = true)
    (z_bool : PySem.W.nsIn K mainGlobals "bool" = some none)
    (z_enumerate : PySem.W.nsIn K mainGlobals "enumerate" = some none)
    (z_int : PySem.W.nsIn K mainGlobals "int" = some none)
    (z_isinstance : PySem.W.nsIn K mainGlobals "isinstance" = some none)
    (z_len : PySem.W.nsIn K mainGlobals "len" = some none)
    (z_list : PySem.W.nsIn K mainGlobals "list" = some none)
    (z_min : PySem.W.nsIn K mainGlobals "min" = some none)
    (z_range : PySem.W.nsIn K mainGlobals "range" = some none)
    (z_reversed : PySem.W.nsIn K mainGlobals "reversed" = some none)
    (z_sorted : PySem.W.nsIn K mainGlobals "sorted" = some none)
    (z_str : PySem.W.nsIn K mainGlobals "str" = some none)
    (z_tuple : PySem.W.nsIn K mainGlobals "tuple" = some none)
    : ∃ fd : FuncData, (∀ (s : Shared) (v : Value), BindsTo s fd ⟨[v], []⟩ [("script", v)]) ∧ ∀ base : Heap, K.In base → base.Ns mainGlobals mg → FnOk l.prog w K mg base CX0 4 fa fd ["script"] (sp_law K) := by
  have e := hfa.symm.trans (PySem.W.mg_of X G ax10)
  cases e
  have B : Blt w K mg := ⟨PySem.W.mg_none_of X G z_bool, PySem.W.mg_none_of X G z_enumerate, PySem.W.mg_none_of X G z_int, PySem.W.mg_none_of X G z_isinstance, PySem.W.mg_none_of X G z_len, PySem.W.mg_none_of X G z_list, PySem.W.mg_none_of X G z_min, PySem.W.mg_none_of X G z_range, PySem.W.mg_none_of X G z_reversed, PySem.W.mg_none_of X G z_sorted, PySem.W.mg_none_of X G z_str, PySem.W.mg_none_of X G z_tuple⟩
  have Fx0 := fun_mk (st := s__law_draws) lx0 cx0 kx0
  have bx0 := Fx0.binds (ps := ["script"]) fun _ _ _ _ _ _ us hl => match us, hl with | [_], _ => rfl
  have Cx0 : ∀ base : Heap, K.In base → base.Ns mainGlobals mg → WP.Callee l.prog w K mg base CX0 1 "_law_draws" ["script"] (sp__law_draws K mg) := fun base p1 p2 => WP.Callee.mk' (ok__law_draws Fx0 B ) (PySem.W.mg_of X G ax0) kx0 bx0
  have Fx1 := fun_mk (st := s__law_draw) lx1 cx1 kx1
  have bx1 := Fx1.binds (ps := ["draws", "limit"]) fun _ _ _ _ _ _ us hl => match us, hl with | [_, _], _ => rfl
  have Cx1 : ∀ base : Heap, K.In base → base.Ns mainGlobals mg → WP.Callee l.prog w K mg base CX0 1 "_law_draw" ["draws", "limit"] (sp__law_draw K mg) := fun base p1 p2 => WP.Callee.mk' (ok__law_draw Fx1 B ) (PySem.W.mg_of X G ax1) kx1 bx1
  have Fx2 := fun_mk (st := s__law_graph) lx2 cx2 kx2
  have bx2 := Fx2.binds (ps := ["draws"]) fun _ _ _ _ _ _ us hl => match us, hl with | [_], _ => rfl
  have Cx2 : ∀ base : Heap, K.In base → base.Ns mainGlobals mg → WP.Callee l.prog w K mg base CX0 2 "_law_graph" ["draws"] (sp__law_graph K mg) := fun base p1 p2 => WP.Callee.mk' (ok__law_graph Fx2 B (Cx1 base p1 p2)) (PySem.W.mg_of X G ax2) kx2 bx2
  have Fx3 := fun_mk (st := s__turned) lx3 cx3 kx3
  have bx3 := Fx3.binds (ps := ["graph"]) fun _ _ _ _ _ _ us hl => match us, hl with | [_], _ => rfl
  have Cx3 : ∀ base : Heap, K.In base → base.Ns mainGlobals mg → WP.Callee l.prog w K mg base CX0 1 "_turned" ["graph"] (sp__turned K mg) := fun base p1 p2 => WP.Callee.mk' (ok__turned Fx3 B ) (PySem.W.mg_of X G ax3) kx3 bx3
  have Fx4 := fun_mk (st := s__finish_order) lx4 cx4 kx4
  have bx4 := Fx4.binds (ps := ["graph"]) fun _ _ _ _ _ _ us hl => match us, hl with | [_], _ => rfl
  have Cx4 : ∀ base : Heap, K.In base → base.Ns mainGlobals mg → WP.Callee l.prog w K mg base CX0 1 "_finish_order" ["graph"] (sp__finish_order K mg) := fun base p1 p2 => WP.Callee.mk' (ok__finish_order Fx4 B ) (PySem.W.mg_of X G ax4) kx4 bx4
  have Fx5 := fun_mk (st := s__vertices_on_circles) lx5 cx5 kx5
  have bx5 := Fx5.binds (ps := ["graph"]) fun _ _ _ _ _ _ us hl => match us, hl with | [_], _ => rfl
  have Cx5 : ∀ base : Heap, K.In base → base.Ns mainGlobals mg → WP.Callee l.prog w K mg base CX0 2 "_vertices_on_circles" ["graph"] (sp__vertices_on_circles K mg) := fun base p1 p2 => WP.Callee.mk' (ok__vertices_on_circles Fx5 B (Cx3 base p1 p2) (Cx4 base p1 p2)) (PySem.W.mg_of X G ax5) kx5 bx5
  have Fx6 := fun_mk (st := s__shortest_circle) lx6 cx6 kx6
  have bx6 := Fx6.binds (ps := ["graph", "start"]) fun _ _ _ _ _ _ us hl => match us, hl with | [_, _], _ => rfl
  have Cx6 : ∀ base : Heap, K.In base → base.Ns mainGlobals mg → WP.Callee l.prog w K mg base CX0 1 "_shortest_circle" ["graph", "start"] (sp__shortest_circle K mg) := fun base p1 p2 => WP.Callee.mk' (ok__shortest_circle Fx6 B ) (PySem.W.mg_of X G ax6) kx6 bx6
  have Fx7 := fun_mk (st := s_circle) lx7 cx7 kx7
  have bx7 := Fx7.binds (ps := ["graph"]) fun _ _ _ _ _ _ us hl => match us, hl with | [_], _ => rfl
  have Cx7 : ∀ base : Heap, K.In base → base.Ns mainGlobals mg → WP.Callee l.prog w K mg base CX0 3 "circle" ["graph"] (sp_circle K mg) := fun base p1 p2 => WP.Callee.mk' (ok_circle Fx7 B (Cx5 base p1 p2) (Cx6 base p1 p2)) (PySem.W.mg_of X G ax7) kx7 bx7
  have Fx8 := fun_mk (st := s__law_way_back) lx8 cx8 kx8
  have bx8 := Fx8.binds (ps := ["graph", "start"]) fun _ _ _ _ _ _ us hl => match us, hl with | [_, _], _ => rfl
  have Cx8 : ∀ base : Heap, K.In base → base.Ns mainGlobals mg → WP.Callee l.prog w K mg base CX0 1 "_law_way_back" ["graph", "start"] (sp__law_way_back K mg) := fun base p1 p2 => WP.Callee.mk' (ok__law_way_back Fx8 B ) (PySem.W.mg_of X G ax8) kx8 bx8
  have Fx9 := fun_mk (st := s__law_same) lx9 cx9 kx9
  have bx9 := Fx9.binds (ps := ["actual", "expected"]) fun _ _ _ _ _ _ us hl => match us, hl with | [_, _], _ => rfl
  have Cx9_0 : ∀ base : Heap, K.In base → base.Ns mainGlobals mg → WP.Callee l.prog w K mg base CX0 0 "_law_same" ["actual", "expected"] (sp__law_same K mg 0) := fun base p1 p2 => WP.Callee.mk' ⟨fun _ _ _ _ h => (h : False).elim, fun _ _ _ _ _ _ _ _ _ _ _ _ _ h => (h : False).elim⟩ (PySem.W.mg_of X G ax9) kx9 bx9
  have Cx9_1 : ∀ base : Heap, K.In base → base.Ns mainGlobals mg → WP.Callee l.prog w K mg base CX0 1 "_law_same" ["actual", "expected"] (sp__law_same K mg 1) := fun base p1 p2 => WP.Callee.mk' (ok__law_same (nn := 0) Fx9 B  (Cx9_0 base p1 p2)) (PySem.W.mg_of X G ax9) kx9 bx9
  have Cx9_2 : ∀ base : Heap, K.In base → base.Ns mainGlobals mg → WP.Callee l.prog w K mg base CX0 2 "_law_same" ["actual", "expected"] (sp__law_same K mg 2) := fun base p1 p2 => WP.Callee.mk' (ok__law_same (nn := 1) Fx9 B  (Cx9_1 base p1 p2)) (PySem.W.mg_of X G ax9) kx9 bx9
  have Cx9_3 : ∀ base : Heap, K.In base → base.Ns mainGlobals mg → WP.Callee l.prog w K mg base CX0 3 "_law_same" ["actual", "expected"] (sp__law_same K mg 3) := fun base p1 p2 => WP.Callee.mk' (ok__law_same (nn := 2) Fx9 B  (Cx9_2 base p1 p2)) (PySem.W.mg_of X G ax9) kx9 bx9
  have Cx9 := Cx9_3
  have Fx10 := fun_mk (st := s_law) lx10 cx10 kx10
  exact ⟨PySem.W.fnOf "law" "law" (defArgs s_law) (defBody s_law) (defScope s_law) .none kVx10 dcx10 pmx10 anx10 cdx10 ctx10, fun s v => .of_eq rfl, fun base p1 p2 => ok_law Fx10 B (Cx0 base p1 p2) (Cx2 base p1 p2) (Cx7 base p1 p2) (Cx8 base p1 p2) (Cx9 base p1 p2)⟩
theorem walk {l : PySem.W.OpenLaw} {q : Program} {loose : List Str} {XP : (Str → Option Value) → Heap → Prop} {YP : World → Heap → Prop} {d : DefRec} {K : Params → PySem.W.Frag} (hn : l.most = some 63) (hdf : d.params.defaults = [])
    (hY : ∀ (w : World) (h : Heap), YP w h → (K w.params).In h)
    (F : ∀ (w : World) (mg : Str → Option Value) (fa : Addr) (h : Heap), (K w.params).In h → h.Ns mainGlobals mg → mg d.name = some (.ref fa) →
      ∃ fd : FuncData, (∀ (s : Shared) (u : Value), BindsTo s fd ⟨[u], []⟩ [("script", u)]) ∧ ∀ base : Heap, (K w.params).In base → base.Ns mainGlobals mg → FnOk l.prog w (K w.params) mg base CX0 4 fa fd ["script"] (sp_law (K w.params))) :
    PySem.W.WalkO q loose XP YP l.row.toRowW d [] (fun f vs => PySem.call f vs) :=
  L2.walk_of (n := 63) (k := 4) (x := "script") (CX := fun _ => CX0) (sp := fun w => sp_law (K w.params)) hn (by decide) hdf ⟨rfl, by decide, by decide⟩ hY F (fun _ _ a ns hl _ hS => ⟨a, ns, rfl, hS, hl, fun _ => rfl⟩) fun _ _ _ _ _ z => z
end D
open PySem PySem.W PyProof.Rows
set_option maxRecDepth 100000 in
set_option maxHeartbeats 0 in
theorem PySem.Challenge.cw_cardwright_k42_circles_holds : PySem.Challenge.rw_cardwright_k42_circles.Holds := by
  w_on; o_law; k_head; (case hw => w_witness2)
  k_fill
  refine D.walk (l := PySem.Challenge.rw_cardwright_k42_circles) rfl rfl (fun w h Y => PySem.W.kIn_of Y) ?F
  case F =>
    intro w mg fa h KX G hmg
    refine' D.all_mk KX G hmg ?ax0 ?lx0 ?cx0 ?kx0 ?ax1 ?lx1 ?cx1 ?kx1 ?ax2 ?lx2 ?cx2 ?kx2 ?ax3 ?lx3 ?cx3 ?kx3 ?ax4 ?lx4 ?cx4 ?kx4 ?ax5 ?lx5 ?cx5 ?kx5 ?ax6 ?lx6 ?cx6 ?kx6 ?ax7 ?lx7 ?cx7 ?kx7 ?ax8 ?lx8 ?cx8 ?kx8 ?ax9 ?lx9 ?cx9 ?kx9 ?ax10 ?lx10 ?cx10 ?kx10 ?z_bool ?z_enumerate ?z_int ?z_isinstance ?z_len ?z_list ?z_min ?z_range ?z_reversed ?z_sorted ?z_str ?z_tuple
    (case ax0 => k_is); (case lx0 => k_is); (case cx0 => k_is); (case kx0 => k_is); (case ax1 => k_is); (case lx1 => k_is)
    (case cx1 => k_is); (case kx1 => k_is); (case ax2 => k_is); (case lx2 => k_is); (case cx2 => k_is); (case kx2 => k_is)
    (case ax3 => k_is); (case lx3 => k_is); (case cx3 => k_is); (case kx3 => k_is); (case ax4 => k_is); (case lx4 => k_is)
    (case cx4 => k_is); (case kx4 => k_is); (case ax5 => k_is); (case lx5 => k_is); (case cx5 => k_is); (case kx5 => k_is)
    (case ax6 => k_is); (case lx6 => k_is); (case cx6 => k_is); (case kx6 => k_is); (case ax7 => k_is); (case lx7 => k_is)
    (case cx7 => k_is); (case kx7 => k_is); (case ax8 => k_is); (case lx8 => k_is); (case cx8 => k_is); (case kx8 => k_is)
    (case ax9 => k_is); (case lx9 => k_is); (case cx9 => k_is); (case kx9 => k_is); (case ax10 => k_is); (case lx10 => k_is)
    (case cx10 => k_is); (case kx10 => k_is); (case z_bool => k_is); (case z_enumerate => k_is); (case z_int => k_is); (case z_isinstance => k_is)
    (case z_len => k_is); (case z_list => k_is); (case z_min => k_is); (case z_range => k_is); (case z_reversed => k_is); (case z_sorted => k_is)
    (case z_str => k_is); (case z_tuple => k_is)
#print axioms PySem.Challenge.cw_cardwright_k42_circles_holds
