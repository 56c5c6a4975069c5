import PyProof.Rows.All
import Wide.All
import OpenK.AllK
import Wide.FinOn
import HandS.ForMost
import HandS.Wide
import HandS.IsInst
import HandS.Evl
import HandS.ForExc
import HandS.ExcIs
import HandS.WideBits
import HandS.AnyAll
import HandS.Codes
import HandS.Comp
import HandS.Dict
import HandS.DictComp
import HandS.EndTab
import HandS.Evl
import HandS.ExcValue
import HandS.Iter
import HandS.MapJoin
import HandS.MapObj
import HandS.More
import HandS.ReplaceDef
import HandS.ReplaceLit
import HandS.Rev
import HandS.RevTup
import HandS.SetBool
import HandS.SortInts
import HandS.Star
import HandS.StrMore
import HandS.Strs
import HandS.Style
import HandS.Text
import HandS.TupAny
import HandS.Walk
import HandS.Zip
import KE.GoesEnumKw
import KE.KDictSum
import PySem.Challenge.RW_cardwright_k40_performed_paragraphs
set_option Elab.async false
set_option linter.all false
set_option maxRecDepth 100000
set_option maxHeartbeats 4000000
namespace WP
open PySem PySem.Spec PyProof.Rows L2

/-! ### a def that may be called -/
structure Callee (P : Program) (w : World) (K : PySem.W.Frag) (mg : Str → Option Value) (base : Heap) (CX : CXT) (lv : Nat) (nm : Str) (ps : List Str) (sp : Sp) : Prop where
  ex : ∃ (f : Addr) (fd : FuncData), FnOk P w K mg base CX lv f fd ps sp ∧ mg nm = some (.ref f) ∧ PySem.W.keepIn K (.ref f) = true ∧ Binds K fd ps []
theorem Callee.mk' {P : Program} {w : World} {K : PySem.W.Frag} {mg : Str → Option Value} {base : Heap} {CX : CXT} {lv : Nat} {nm : Str} {ps : List Str} {sp : Sp} {f : Addr} {fd : FuncData}
    (h : FnOk P w K mg base CX lv f fd ps sp) (m : mg nm = some (.ref f)) (k : PySem.W.keepIn K (.ref f) = true) (b : Binds K fd ps []) : Callee P w K mg base CX lv nm ps sp := ⟨⟨f, fd, h, m, k, b⟩⟩
section
variable {X : Cx} {CX : CXT} {k j : Nat} {ps : List Str} {sp : Sp} {E : XK} {x : Str} {p pos : Pos} {e : Expr} {es : List Expr} {t : TA}
theorem pe_callC (C : Callee X.prog X.w X.K X.mg X.base CX k x ps sp) (hr : Room j X.A) (hg : Gl X x) (hx : Passes CX X E) (ha : PA X (e :: es) t) (hl : k ≤ j := by decide)
    (hdb : (x == ("__debug__" : Str)) = false := by decide) (he : starEach (e :: es) X.env = (false, eval e X.env) :: starEach es X.env := by rfl) (hpl : (backTo pos (starEach es X.env)).any (·.1) = false := by rfl) :
    PE X (.Call (.Name x p) (e :: es) [] pos) (tCall sp [] E t) := by
  obtain ⟨f, fd, F, hm, hk, hb⟩ := C.ex
  exact pe_call F (hr.mono hl) hg hm hk hb .nil hx ha hdb he hpl
theorem pe_callC0 (C : Callee X.prog X.w X.K X.mg X.base CX k x ps sp) (hr : Room j X.A) (hg : Gl X x) (hx : Passes CX X E) (hl : k ≤ j := by decide)
    (hdb : (x == ("__debug__" : Str)) = false := by decide) : PE X (.Call (.Name x p) [] [] pos) (tCall sp [] E tNil) := by
  obtain ⟨f, fd, F, hm, hk, hb⟩ := C.ex
  exact pe_call0 F (hr.mono hl) hg hm hk hb .nil hx hdb
end

/-! ### readings, a step at a time -/
section
variable {σ : L2.St} {H : Hp} {D : Ends} {t u : TS} {te ta tb : TE} {tt tu : TT} {g : TG} {Q : VK} {QB : Bool → Hp → Prop} {QA : List V → Hp → Prop} {r : R2} {i j : Int} {n : Nat} {v x y : V}
theorem seq (h : t { D with nx := u D } σ H) : tSeq t u D σ H := h
theorem asg (h : te σ H fun x H1 => g x σ H1 D.nx) : tAsg te g D σ H := h
theorem name {QS : L2.St → Hp → Prop} (h : QS (σ.set n (some v)) H) : gName n v σ H QS := h
theorem var (e : σ[n]? = some (some v)) (h : Q v H) : tVar n σ H Q := ⟨v, e, h⟩
theorem con (h : Q v H) : tC v σ H Q := h
theorem op (h : ta σ H fun x H1 => tb σ H1 fun y H2 => r x y H2 Q) : tOp r ta tb σ H Q := h
theorem un {ru : V → Hp → VK → Prop} (h : ta σ H fun x H1 => ru x H1 Q) : tUn ru ta σ H Q := h
theorem rU_ {g : Int → V} (h : Q (g i) H) : rU g (.int i) H Q := ⟨i, rfl, h⟩
theorem i0 {g : Int → Int → V} (h : Q (g i j) H) : rI0 g (.int i) (.int j) H Q := ⟨i, j, rfl, rfl, h⟩
theorem iC {C : Int → Int → Prop} {g : Int → Int → V} (c : C i j) (h : Q (g i j) H) : rI C g (.int i) (.int j) H Q := ⟨i, j, rfl, rfl, c, h⟩
theorem eqS (s : scal x y = true) (h : Q (.bl (decide (x = y))) H) : rEq x y H Q := ⟨s, h⟩
theorem neS (s : scal x y = true) (h : Q (.bl (!decide (x = y))) H) : rNe x y H Q := ⟨s, h⟩
theorem ifS (h : tt σ H fun b H1 => if b = true then t D σ H1 else u D σ H1) : tIfS tt t u D σ H := h
theorem ifE (h : tt σ H fun b H1 => if b = true then ta σ H1 Q else tb σ H1 Q) : tIf tt ta tb σ H Q := h
theorem test (h : te σ H fun x H1 => ∃ k, x = .bl k ∧ QB k H1) : tTest te σ H QB := h
theorem bt (h : te σ H fun x H1 => ∃ k, x = .bl k ∧ QB k H1) : tB te σ H QB := h
theorem isb {b : Bool} (h : QB b H) : ∃ k, V.bl b = V.bl k ∧ QB k H := ⟨b, rfl, h⟩
theorem ret (h : te σ H D.rt) : tRet te D σ H := h
theorem retN (h : D.rt .non H) : tRetN D σ H := h
theorem drop (h : te σ H fun _ H1 => D.nx σ H1) : tDrop te D σ H := h
theorem next (h : D.nx σ H) : tNext D σ H := h
theorem brk (h : D.bk σ H) : tBreak D σ H := h
theorem cont (h : D.ct σ H) : tCont D σ H := h
theorem cb {rc : List V → Hp → VK → Prop} {a : TA} (h : a σ H fun vs H1 => rc vs H1 Q) : tCB rc a σ H Q := h
theorem call {sp : Sp} {E : XK} {a : TA} (h : a σ H fun vs H1 => sp (vs ++ []) H1 Q E) : tCall sp [] E a σ H Q := h
theorem cons {a : TA} (h : te σ H fun x H1 => a σ H1 fun xs H2 => QA (x :: xs) H2) : tCons te a σ H QA := h
theorem nil (h : QA [] H) : tNil σ H QA := h
theorem tup {a : TA} (h : a σ H fun xs H1 => xs.length ≤ sizeLine ∧ ∀ p, H1 p = none → Q (.ref p) (upd H1 p (.tup xs))) : tTup a σ H Q := h
theorem lst {a : TA} (h : a σ H fun xs H1 => xs.length ≤ sizeLine ∧ ∀ p, H1 p = none → Q (.ref p) (upd H1 p (.lst xs))) : tLst a σ H Q := h
theorem notT (h : tt σ H fun c H1 => QB (!c) H1) : tNot tt σ H QB := h
theorem andT (h : tt σ H fun c H1 => if c = true then tu σ H1 QB else QB false H1) : tAnd tt tu σ H QB := h
theorem orT (h : tt σ H fun c H1 => if c = true then QB true H1 else tu σ H1 QB) : tOr tt tu σ H QB := h
theorem andV (h : ta σ H fun x H1 => ∃ c, x = .bl c ∧ if c = true then tb σ H1 Q else Q (.bl false) H1) : tAndV ta tb σ H Q := h
theorem orV (h : ta σ H fun x H1 => ∃ c, x = .bl c ∧ if c = true then Q (.bl true) H1 else tb σ H1 Q) : tOrV ta tb σ H Q := h
theorem notV (h : ta σ H fun x H1 => ∃ c, x = .bl c ∧ Q (.bl (!c)) H1) : tNotV ta σ H Q := h
theorem isbV {b : Bool} {R : Bool → Prop} (h : R b) : ∃ k, V.bl b = V.bl k ∧ R k := ⟨b, rfl, h⟩
theorem sl {r : V → Option Int → Option Int → Hp → VK → Prop} {tl th : TO} (h : te σ H fun x H1 => tl σ H1 fun l H2 => th σ H2 fun u H3 => r x l u H3 Q) : tSl r te tl th σ H Q := h
theorem noPart {QO : Option Int → Hp → Prop} (h : QO none H) : tNoPart σ H QO := h
theorem part {QO : Option Int → Hp → Prop} (h : te σ H fun x H1 => ∃ i, x = .int i ∧ QO (some i) H1) : tPart te σ H QO := h
theorem isi {R : Int → Prop} (h : R i) : ∃ k, V.int i = V.int k ∧ R k := ⟨i, rfl, h⟩
/-- tests -/
theorem br {c A B : Prop} [Decidable c] (h1 : c → A) (h2 : ¬ c → B) : if decide c = true then A else B := by
  by_cases h : c
  · rw [decide_eq_true h, if_pos rfl]; exact h1 h
  · rw [decide_eq_false h, if_neg Bool.false_ne_true]; exact h2 h
theorem brN {c A B : Prop} [Decidable c] (h1 : ¬ c → A) (h2 : c → B) : if (!decide c) = true then A else B := by
  by_cases h : c
  · rw [decide_eq_true h]; exact iteF (h2 h)
  · rw [decide_eq_false h]; exact iteT (h1 h)
theorem brT {b : Bool} {A B : Prop} (e : b = true) (h : A) : if b = true then A else B := by rw [if_pos e]; exact h
theorem brF {b : Bool} {A B : Prop} (e : b = false) (h : B) : if b = true then A else B := by rw [if_neg (by rw [e]; exact Bool.false_ne_true)]; exact h
theorem brB {b : Bool} {A B : Prop} (h1 : b = true → A) (h2 : b = false → B) : if b = true then A else B := by
  cases b
  · exact iteF (h2 rfl)
  · exact iteT (h1 rfl)
theorem dec_int {i j : Int} : decide (V.int i = V.int j) = decide (i = j) := by
  by_cases h : i = j
  · rw [decide_eq_true h, decide_eq_true (congrArg V.int h)]
  · rw [decide_eq_false h, decide_eq_false fun e => h (V.int.inj e)]
theorem dec_str {i j : Str} : decide (V.str i = V.str j) = decide (i = j) := by
  by_cases h : i = j
  · rw [decide_eq_true h, decide_eq_true (congrArg V.str h)]
  · rw [decide_eq_false h, decide_eq_false fun e => h (V.str.inj e)]
theorem dec_bl {i j : Bool} : decide (V.bl i = V.bl j) = decide (i = j) := by
  by_cases h : i = j
  · rw [decide_eq_true h, decide_eq_true (congrArg V.bl h)]
  · rw [decide_eq_false h, decide_eq_false fun e => h (V.bl.inj e)]
theorem eqI (h : Q (.bl (decide (i = j))) H) : rEq (.int i) (.int j) H Q := ⟨rfl, by rw [dec_int]; exact h⟩
theorem neI (h : Q (.bl (!decide (i = j))) H) : rNe (.int i) (.int j) H Q := ⟨rfl, by rw [dec_int]; exact h⟩
theorem eqT {a b : Str} (h : Q (.bl (decide (a = b))) H) : rEq (.str a) (.str b) H Q := ⟨rfl, by rw [dec_str]; exact h⟩
theorem neT {a b : Str} (h : Q (.bl (!decide (a = b))) H) : rNe (.str a) (.str b) H Q := ⟨rfl, by rw [dec_str]; exact h⟩
theorem eqB {a b : Bool} (h : Q (.bl (decide (a = b))) H) : rEq (.bl a) (.bl b) H Q := ⟨rfl, by rw [dec_bl]; exact h⟩
theorem neB {a b : Bool} (h : Q (.bl (!decide (a = b))) H) : rNe (.bl a) (.bl b) H Q := ⟨rfl, by rw [dec_bl]; exact h⟩
end
/-! ### numbers of a known number of bits -/
theorem sz2 : (2 : Nat) ≤ sizeLine := by rw [sizeLine_eq]; decide
theorem sz {n : Nat} (h : n ≤ 1000000) : n ≤ sizeLine := by rw [sizeLine_eq]; omega
end WP
namespace WP
open PySem PySem.Spec PyProof.Rows L2
section
variable {X : Cx} {x : Str} {v : V} {pos : Pos}
theorem pe_const (hg : Gl X x) (h : ∃ u, X.mg x = some u ∧ RelV v u) (hd : (x == ("__debug__" : Str)) = false := by decide) : PE X (.Name x pos) (tC v) := by
  obtain ⟨u, hm, r⟩ := h
  exact pe_glob hg hm r hd
end
/-- a number of at most a bits -/
def Bt (i : Int) (a : Nat) : Prop := i.natAbs < 2 ^ a
theorem Bt.mono {i : Int} {a b : Nat} (h : Bt i a) (l : a ≤ b) : Bt i b := Nat.lt_of_lt_of_le h (Nat.pow_le_pow_right (by decide) l)
theorem Bt.mul {i j : Int} {a b : Nat} (h : Bt i a) (k : Bt j b) : Bt (i * j) (a + b) := wide_lt h k
theorem Bt.neg {i : Int} {a : Nat} (h : Bt i a) : Bt (-i) a := by unfold Bt at *; rw [Int.natAbs_neg]; exact h
theorem Bt.add {i j : Int} {a : Nat} (h : Bt i a) (k : Bt j a) : Bt (i + j) (a + 1) := by
  unfold Bt at *
  have := Int.natAbs_add_le i j
  rw [Nat.pow_succ]; omega
theorem Bt.sub {i j : Int} {a : Nat} (h : Bt i a) (k : Bt j a) : Bt (i - j) (a + 1) := by
  rw [Int.sub_eq_add_neg]; exact h.add k.neg
theorem Bt.le {i j : Int} {a : Nat} (h : Bt i a) (k : j.natAbs ≤ i.natAbs) : Bt j a := Nat.lt_of_le_of_lt k h
theorem Bt.ten (n : Nat) : Bt (10 ^ n) (4 * n + 1) := by
  unfold Bt
  have e : ((10 : Int) ^ n).natAbs = 10 ^ n := by rw [Int.natAbs_pow]; rfl
  rw [e]
  have h : 10 ^ n ≤ 16 ^ n := Nat.pow_le_pow_left (by decide) n
  have h2 : (16 : Nat) ^ n = 2 ^ (4 * n) := by rw [show (16 : Nat) = 2 ^ 4 from rfl, ← Nat.pow_mul]
  rw [h2] at h
  rw [Nat.pow_succ]
  have : 0 < 2 ^ (4 * n) := Nat.pow_pos (by decide)
  omega
theorem Bt.w {i j : Int} {a b : Nat} (h : Bt i a) (k : Bt j b) (l : a + b ≤ 999998 := by omega) : CMulW i j :=
  wide_mul (h.mono (Nat.le_succ a)) (k.mono (Nat.le_succ b)) (Nat.succ_pos _) (Nat.succ_pos _) (by omega)
theorem Bt.d {j : Int} {b : Nat} (h : 0 < j) (k : Bt j b) (l : b ≤ 8999 := by omega) : CDivW 0 j := wide_div h (k.mono (Nat.le_succ b)) (Nat.succ_pos _) (by omega)
theorem Bt.d' {i j : Int} {b : Nat} (h : 0 < j) (k : Bt j b) (l : b ≤ 8999 := by omega) : CDivW i j := Bt.d h k l
theorem ten_pos (n : Nat) : (0 : Int) < 10 ^ n := Int.pow_pos (by decide)
end WP
namespace WP
open PySem PySem.Spec PyProof.Rows L2
/-! ### what comes back -/
def RetT (xs : List V) (H : Hp) (Q : VK) : Prop := ∀ p H', Same H H' → H' p = some (.tup xs) → Q (.ref p) H'
def RetL (xs : List V) (H : Hp) (Q : VK) : Prop := ∀ p H', H p = none → Same H H' → H' p = some (.lst xs) → Q (.ref p) H'
def RetV (v : V) (H : Hp) (Q : VK) : Prop := ∀ H', Same H H' → Q v H'
theorem same_new {H : Hp} {p : Addr} {o : HO} (h : H p = none) : Same H (upd H p o) := fun b u e => by
  rw [upd_ne (ne_of_none e h)]; exact e
theorem same_mut {H H' : Hp} {p : Addr} {o : HO} (e : Same H H') (h : H p = none) : Same H (upd H' p o) := fun a u ha => by
  rw [upd_ne (ne_of_none ha h)]; exact e a u ha
theorem sqt {K : PySem.W.Frag} {H H' : Hp} {a : Addr} {xs : List V} (e : Same H H') (h : SqT K H a xs) : SqT K H' a xs := by
  rcases h with (h | ⟨o, h⟩) | h
  · exact .inl (.inl (e _ _ h))
  · exact .inl (.inr ⟨o, e _ _ h⟩)
  · exact .inr h
theorem RetT.new {xs : List V} {H H' : Hp} {Q : VK} (k : RetT xs H Q) (e : Same H H') : ∀ p, H' p = none → Q (.ref p) (upd H' p (.tup xs)) := fun p hp =>
  k p _ (e.trans (same_new hp)) upd_same
theorem RetL.new {xs : List V} {H H' : Hp} {Q : VK} (k : RetL xs H Q) (e : Same H H') : ∀ p, H' p = none → Q (.ref p) (upd H' p (.lst xs)) := fun p hp =>
  k p _ (e.free hp) (e.trans (same_new hp)) upd_same
/-- a decimal's two parts -/
abbrev dv (u : Int) (s : Nat) : List V := [.int u, .int (s : Int)]
theorem at0 {α : Type} {x : α} {xs : List α} : atI (x :: xs) (0 : Int) = some x := atI_nat (j := 0) rfl
theorem at1 {α : Type} {x y : α} {xs : List α} : atI (x :: y :: xs) (1 : Int) = some y := atI_nat (j := 1) rfl
theorem at2 {α : Type} {x y z : α} {xs : List α} : atI (x :: y :: z :: xs) (2 : Int) = some z := atI_nat (j := 2) rfl
theorem at3 {α : Type} {x y z u : α} {xs : List α} : atI (x :: y :: z :: u :: xs) (3 : Int) = some u := atI_nat (j := 3) rfl
theorem at4 {α : Type} {x y z u v : α} {xs : List α} : atI (x :: y :: z :: u :: v :: xs) (4 : Int) = some v := atI_nat (j := 4) rfl
section
variable {K : PySem.W.Frag} {H : Hp} {p : Addr} {xs : List V} {v : V} {i : Int} {Q : VK}
theorem ixT (h : SqT K H p xs) (a : atI xs i = some v) (q : Q v H) : rIxT K (.ref p) (.int i) H Q := ⟨p, xs, i, v, rfl, rfl, h, a, q⟩
theorem ixL (h : SqL K H p xs) (a : atI xs i = some v) (q : Q v H) : rIxL K (.ref p) (.int i) H Q := ⟨p, xs, i, v, rfl, rfl, h, a, q⟩
theorem unT {n : Nat} {t : TGs} {σ : L2.St} {QS : L2.St → Hp → Prop} (h : SqT K H p xs) (l : xs.length = n) (q : t xs σ H QS) : gTup K n t (.ref p) σ H QS := ⟨p, xs, rfl, h, l, q⟩
theorem gsCons {g : TG} {gs : TGs} {x : V} {r : List V} {σ : L2.St} {QS : L2.St → Hp → Prop} (q : g x σ H fun σ' H' => gs r σ' H' QS) : gCons g gs (x :: r) σ H QS := ⟨x, r, rfl, q⟩
theorem gsNil {σ : L2.St} {QS : L2.St → Hp → Prop} (q : QS σ H) : gNil [] σ H QS := ⟨rfl, q⟩
end
end WP
namespace WP
open PySem PySem.Spec PyProof.Rows L2
section
variable {K : PySem.W.Frag} {H : Hp} {p : Addr} {xs : List V} {v x : V} {i : Int} {Q : VK} {σ : L2.St} {D : Ends}
theorem forl {wi : TI} {g : TG} {tb : TS} (h : wi σ H fun J H1 => ∃ W : Nat → Nat → L2.St → Hp → Prop, (∃ m, W 0 m σ H1) ∧ ∀ i m σ H, W i m σ H →
  (J.stop i H ∧ D.nx σ H) ∨ (J.go i H ∧ ∃ N : L2.St → Hp → Prop, (∀ σ' H', N σ' H' → ∃ m', m' < m ∧ W (i + 1) m' σ' H') ∧ ∀ x H', J.yld i H x H' → g x σ H' fun σ2 H2 => tb { D with nx := N, ct := N, bk := D.nx } σ2 H2)) : tFor wi g tb D σ H := h
theorem rng1 {ta : TA} {R : It → Hp → Prop} (h : ta σ H fun vs H1 => ∃ j : Int, vs = [.int j] ∧ -(2 ^ 62) ≤ j ∧ j < 2 ^ 62 ∧ R (Itr 0 j.toNat) H1) : iRng1 ta σ H R := h
theorem rng2 {ta : TA} {R : It → Hp → Prop} (h : ta σ H fun vs H1 => ∃ i j : Int, vs = [.int i, .int j] ∧ (-(2 ^ 62) ≤ i ∧ i < 2 ^ 62 ∧ -(2 ^ 62) ≤ j ∧ j < 2 ^ 62) ∧ R (Itr i (j - i).toNat) H1) : iRng2 ta σ H R := h
theorem walkL {tl : TE} {R : It → Hp → Prop} (h : tl σ H fun x H1 => ∃ a, x = .ref a ∧ (∃ xs, SqL K H1 a xs) ∧ R (Itl K a) H1) : iList K tl σ H R := h
theorem walkT {tl : TE} {R : It → Hp → Prop} (h : tl σ H fun x H1 => ∃ a, x = .ref a ∧ (∃ xs, SqT K H1 a xs) ∧ R (Itt K a) H1) : iTup K tl σ H R := h
theorem isT {t n : String} {b : Bool} (ty : TyX K H x (.type t)) (q : Q (.bl b) H) (hb : kitB t n = some b := by decide +kernel) : rIsi K [x, .ty n] H Q :=
  ⟨x, .ty n, _, _, b, rfl, ClsV.ty n, ty, kit_ty hb, q⟩
theorem isY {t n : String} (ty : TyX K H x (.type t)) (q : Q (.bl true) H) (hb : kitB t n = some true := by decide +kernel) : rIsi K [x, .ty n] H Q := isT ty q hb
theorem isN {t n : String} (ty : TyX K H x (.type t)) (q : Q (.bl false) H) (hb : kitB t n = some false := by decide +kernel) : rIsi K [x, .ty n] H Q := isT ty q hb
def rLen (K : PySem.W.Frag) : List V → Hp → VK → Prop := fun xs H Q => ∃ x n, xs = [x] ∧ LenV K x H n ∧ Q (.int (n : Nat)) H
theorem c_len {X : Cx} : CallR X (.builtin "len") (rLen X.K) := call_len
theorem lenL (h : SqL K H p xs) (q : Q (.int (xs.length : Int)) H) : rLen K [V.ref p] H Q := ⟨_, _, rfl, .inl ⟨xs, h, rfl⟩, q⟩
theorem lenT (h : SqT K H p xs) (q : Q (.int (xs.length : Int)) H) : rLen K [V.ref p] H Q := ⟨_, _, rfl, .inr ⟨xs, h, rfl⟩, q⟩
theorem lenS {z : Str} (h : z.length ≤ sizeLine) (q : Q (.int (z.length : Int)) H) : rLen K [V.str z] H Q := ⟨_, _, rfl, ⟨h, rfl⟩, q⟩
def rInt1 : List V → Hp → VK → Prop := fun xs H Q => (∃ i, xs = [.int i] ∧ Q (.int i) H) ∨ ∃ k, xs = [.bl k] ∧ Q (.int (if k then 1 else 0)) H
theorem c_int1 {X : Cx} : CallR X (.type "int") rInt1 := call_int1
theorem intI (q : Q (.int i) H) : rInt1 [V.int i] H Q := .inl ⟨i, rfl, q⟩
theorem intB {b : Bool} (q : Q (.int (if b then 1 else 0)) H) : rInt1 [V.bl b] H Q := .inr ⟨b, rfl, q⟩
def rAbs : List V → Hp → VK → Prop := fun xs H Q => ∃ i, xs = [.int i] ∧ Q (.int (if i < 0 then -i else i)) H
theorem c_abs {X : Cx} : CallR X (.builtin "abs") rAbs := call_abs
theorem absI (q : Q (.int (i.natAbs : Int)) H) : rAbs [V.int i] H Q := ⟨i, rfl, by
  have e : (if i < 0 then -i else i) = (i.natAbs : Int) := by split <;> omega
  rw [e]; exact q⟩
def rMax2 : List V → Hp → VK → Prop := fun xs H Q => ∃ i j, xs = [.int i, .int j] ∧ Q (.int (if j > i then j else i)) H
def rMin2 : List V → Hp → VK → Prop := fun xs H Q => ∃ i j, xs = [.int i, .int j] ∧ Q (.int (if j < i then j else i)) H
theorem c_max2 {X : Cx} (hc : X.calm = true) : CallR X (.builtin "max") rMax2 := call_max2 hc
theorem c_min2 {X : Cx} (hc : X.calm = true) : CallR X (.builtin "min") rMin2 := call_min2 hc
theorem maxI {j : Int} (q : Q (.int (max i j)) H) : rMax2 [V.int i, V.int j] H Q := ⟨i, j, rfl, by
  have e : (if j > i then j else i) = max i j := by split <;> omega
  rw [e]; exact q⟩
theorem minI {j : Int} (q : Q (.int (min i j)) H) : rMin2 [V.int i, V.int j] H Q := ⟨i, j, rfl, by
  have e : (if j < i then j else i) = min i j := by split <;> omega
  rw [e]; exact q⟩
def rStrI : List V → Hp → VK → Prop := fun xs H Q => ∃ i : Int, xs = [.int i] ∧ i.natAbs.log2 < 1920 ∧ Q (.str (toString i)) H
theorem c_str {X : Cx} : CallR X (.type "str") rStrI := call_str_int
theorem strI (h : i.natAbs.log2 < 1920) (q : Q (.str (toString i)) H) : rStrI [V.int i] H Q := ⟨i, rfl, h, q⟩
def rListOf (K : PySem.W.Frag) : List V → Hp → VK → Prop := fun xs H Q => ∃ p ys, xs = [.ref p] ∧ (SqL K H p ys ∨ SqT K H p ys) ∧ ∀ l, H l = none → Q (.ref l) (upd H l (.lst ys))
theorem c_listOf {X : Cx} : CallR X (.type "list") (rListOf X.K) := call_list_of
theorem listL (h : SqL K H p xs) (q : ∀ l, H l = none → Q (.ref l) (upd H l (.lst xs))) : rListOf K [V.ref p] H Q := ⟨p, xs, rfl, .inl h, q⟩
theorem listT (h : SqT K H p xs) (q : ∀ l, H l = none → Q (.ref l) (upd H l (.lst xs))) : rListOf K [V.ref p] H Q := ⟨p, xs, rfl, .inr h, q⟩
def rTupOf (K : PySem.W.Frag) : List V → Hp → VK → Prop := fun xs H Q => ∃ p ys, xs = [.ref p] ∧ ((SqL K H p ys ∧ ∀ l, H l = none → Q (.ref l) (upd H l (.tup ys))) ∨ (SqT K H p ys ∧ Q (.ref p) H))
theorem c_tupOf {X : Cx} : CallR X (.type "tuple") (rTupOf X.K) := call_tuple_of
theorem tupL (h : SqL K H p xs) (q : ∀ l, H l = none → Q (.ref l) (upd H l (.tup xs))) : rTupOf K [V.ref p] H Q := ⟨p, xs, rfl, .inl ⟨h, q⟩⟩
def rOrd : List V → Hp → VK → Prop := fun xs H Q => ∃ x : Str, xs = [.str x] ∧ x.length = 1 ∧ Q (.int (x.cps.getD 0 0 : Nat)) H
theorem c_ord {X : Cx} : CallR X (.builtin "ord") rOrd := call_ord
theorem ordS {z : Str} (h : z.length = 1) (q : Q (.int (z.cps.getD 0 0 : Nat)) H) : rOrd [V.str z] H Q := ⟨z, rfl, h, q⟩
def rDivmod : List V → Hp → VK → Prop := fun xs H Q => ∃ i j, xs = [.int i, .int j] ∧ CDiv i j ∧ ∀ p, H p = none → Q (.ref p) (upd H p (.tup [.int (i / j), .int (i % j)]))
theorem c_divmod {X : Cx} : CallR X (.builtin "divmod") rDivmod := call_divmod
theorem sql {H' : Hp} {a : Addr} (e : Same H H') (h : SqL K H a xs) : SqL K H' a xs := e.seq h
theorem at_ints {ns : List Int} (h0 : 0 ≤ i) (h1 : i < (ns.length : Int)) : atI (ns.map V.int) i = some (.int (ns.getD i.toNat 0)) := by
  have e : i = ((i.toNat : Nat) : Int) := (Int.toNat_of_nonneg h0).symm
  rw [e]
  refine atI_nat ?_
  have hl : i.toNat < ns.length := by omega
  rw [List.getElem?_map, List.getElem?_eq_getElem hl, Int.toNat_natCast, List.getD_eq_getElem?_getD, List.getElem?_eq_getElem hl]
  rfl
end
end WP
namespace WP
open PySem PySem.Spec PyProof.Rows L2
section
variable {X : Cx}
theorem cut {t u : TS} {D : Ends} {σ : L2.St} {H : Hp} (Mid : L2.St → Hp → Prop) (h : t { D with nx := Mid } σ H) (k : ∀ σ' H', Mid σ' H' → u D σ' H') : Evl.tCut t u D σ H := ⟨Mid, h, k⟩
end
/-! ### == of data -/
section
variable {K : PySem.W.Frag} {H : Hp} {x y : V} {d e : PyData} {Q : VK}
theorem eqD (a : Dp K H x d) (b : Dp K H y e) (h : Q (.bl (PyData.eqv d e)) H) (s1 : SeqAt.shaped d = true := by first | rfl | decide +kernel) (s2 : SeqAt.shaped e = true := by first | rfl | decide +kernel) : rEqD K x y H Q := ⟨d, e, a, b, s1, s2, h⟩
theorem neD (a : Dp K H x d) (b : Dp K H y e) (h : Q (.bl (!PyData.eqv d e)) H) (s1 : SeqAt.shaped d = true := by first | rfl | decide +kernel) (s2 : SeqAt.shaped e = true := by first | rfl | decide +kernel) : rNeD K x y H Q := ⟨d, e, a, b, s1, s2, h⟩
theorem dpv {p : Addr} {u : Int} {s : Nat} (h : SqT K H p (dv u s)) : Dp K H (.ref p) (.tuple [.int u, .int (s : Int)]) := .tup h (.cons (.int _) (.cons (.int _) .nil))
end
end WP
namespace WP
open PySem PySem.Spec PyProof.Rows L2
abbrev MG := Str → Option Value
/-- the address that a module's name holds -/
def ca (mg : MG) (nm : Str) : Addr := match mg nm with
  | some (.ref a) => a
  | _ => 0
theorem ca_of {mg : MG} {nm : Str} {a : Addr} (h : mg nm = some (.ref a)) : ca mg nm = a := by unfold ca; rw [h]
/-! ### own exceptions without an __init__ of their own -/
structure ExcAt (K : PySem.W.Frag) (C : Addr) : Prop where
  x : PySem.W.excIn K C [.type "ValueError", .type "Exception", .type "BaseException", .type "object"] "ValueError.__new__" = true
  k : PySem.W.keepIn K (.ref C) = true
  t : PySem.W.typeIn K (.ref C) = some (.type "type")
  c : ExcC K C
structure ExcOk (K : PySem.W.Frag) (mg : MG) (nm : Str) : Prop where
  m : mg nm = some (.ref (ca mg nm))
  a : ExcAt K (ca mg nm)
theorem ExcOk.mk' {K : PySem.W.Frag} {mg : MG} {nm : Str} {C : Addr} (h : mg nm = some (.ref C)) (x : ExcAt K C) : ExcOk K mg nm := by
  have e := ca_of h
  exact ⟨by rw [e]; exact h, by rw [e]; exact x⟩
theorem ExcAt.raises {X : Cx} {C : Addr} (x : ExcAt X.K C) : Raises X (.ref C) := raises_own x.c.hs x.t
theorem ExcAt.catches {K : PySem.W.Frag} {C : Addr} (x : ExcAt K C) {cls : Value} {b : Bool} (h : PySem.W.subIn K cls (.ref C) = some b) : PySem.W.exmOne K cls (.ref C) = some b := PySem.W.exm_ref x.c.hs x.c.hd x.t h
section
variable {X : Cx} {x m : Str} {j : Nat} {p p2 pos pos2 : Pos} {W : WX}
theorem ps_raiseC (hc : X.calm = true) (tk : Takes X W) (e : ExcOk X.K X.mg x) (hg : Gl X x) (hdb : (x == ("__debug__" : Str)) = false := by decide) :
    PS X (.Raise (some (.Call (.Name x p) [.Constant (.str m) j p2] [] pos)) none pos2) (fun _ σ H => W (.ref (ca X.mg x)) none σ H) :=
  ps_raise hc tk (pmk_own PySem.F.excBase_ValueError e.a.x e.m e.a.k e.a.raises hg hdb)
end
/-- isinstance of the caught error -/
def rIsX (K : PySem.W.Frag) (a : Addr) (cls : Value) (d : Option Addr) : List V → Hp → VK → Prop := fun xs H Q => ∃ D, cls = .ref D ∧ d = none ∧ ExcC K D ∧ rIsE K D a xs H Q
theorem call_isX {X : Cx} {a : Addr} {oe : Obj} {cls : Value} {d : Option Addr} {pn : List (Addr × Obj)} (hz : Zc cls d oe) (hf : ∃ vs, oe.data = .fields vs) : CallR (X.suite a ((a, oe) :: pn)) (.builtin "isinstance") (rIsX X.K a cls d) := by
  intro pins s σ H xs us Q I r h
  obtain ⟨D, rfl, rfl, c, h⟩ := h
  exact call_isE c hz hf pins s σ H xs us Q I r h
theorem isX {K : PySem.W.Frag} {a D C : Addr} {b : Bool} {H : Hp} {Q : VK} (c : ExcC K D) (h : PySem.W.kitOne K (.ref D) (.ref C) = some b) (q : Q (.bl b) H) : rIsX K a (.ref D) none [.ref a, .ref C] H Q :=
  ⟨D, rfl, rfl, c, .ref C, .ref C, b, rfl, fun _ r => r, h, q⟩
section
variable {X : Cx} {CX' : CXT} {k j : Nat} {ps : List Str} {sp : Sp} {E : L2.St → XK} {E0 : XK} {x : Str} {p pos : Pos} {e : Expr} {es : List Expr} {t : TA}
theorem pe_callSC (C : Callee X.prog X.w X.K X.mg X.base (L2.CX X.prog X.w) k x ps sp) (hr : Room j X.A) (hg : Gl X x) (hx : ∀ σ, PassesAt (L2.CX X.prog X.w) X σ (E σ)) (ha : PA X (e :: es) t) (hl : k ≤ j := by decide)
    (hdb : (x == ("__debug__" : Str)) = false := by decide) (he : starEach (e :: es) X.env = (false, eval e X.env) :: starEach es X.env := by rfl) (hpl : (backTo pos (starEach es X.env)).any (·.1) = false := by rfl) :
    PE X (.Call (.Name x p) (e :: es) [] pos) (tCallS sp E t) := by
  obtain ⟨f, fd, F, hm, hk, hb⟩ := C.ex
  exact pe_callS F (hr.mono hl) hg hm hk hb hx ha hdb he hpl
/-- what a callee lets out leaves this def too -/
theorem passX {E : XK} {E₁ : Value → Shared → Prop} (hs : X.stack = X.env :: X.outer) (hf : X.env.frame = some X.env.locals) (hex : X.ex = [])
    (hx : X.xe = fun e s' => wpAny (model X.prog X.w) X.A (leaving X.env e) (fun _ s'' => L2.CX X.prog X.w X.outer X.H_0 X.s_0 E e s'') E₁ s') : Passes (L2.CX X.prog X.w) X E :=
  fun pins σ H s e s' I c => passes_call (takes_of hs hf hex hx) (fun _ _ _ _ z => z) pins σ H s e s' I c
end
theorem callS {sp : Sp} {E : L2.St → XK} {a : TA} {σ : L2.St} {H : Hp} {Q : VK} (h : a σ H fun vs H1 => sp vs H1 Q (E σ)) : tCallS sp E a σ H Q := h
end WP
namespace WP
open PySem PySem.Spec PyProof.Rows L2
def rDivmodW : List V → Hp → VK → Prop := fun xs H Q => ∃ i j, xs = [.int i, .int j] ∧ CDivP i j ∧ ∀ p, H p = none → Q (.ref p) (upd H p (.tup [.int (i / j), .int (i % j)]))
theorem c_divmodW {X : Cx} : CallR X (.builtin "divmod") rDivmodW := call_divmodW
theorem Bt.p {i j : Int} {a : Nat} (h : Bt i a) (hj : 0 < j) (l : a ≤ 4000 := by omega) : CDivP i j := divp_ok hj (by have := intBits_le h; omega)
theorem divW {i j : Int} {H : Hp} {Q : VK} (c : CDivP i j) (q : ∀ p, H p = none → Q (.ref p) (upd H p (.tup [.int (i / j), .int (i % j)]))) : rDivmodW [.int i, .int j] H Q := ⟨i, j, rfl, c, q⟩
end WP
namespace WP
open PySem PySem.Spec PyProof.Rows L2
/-- a callee that raises, called where it does not -/
theorem pass0X {X : Cx} : Passes (L2.CX X.prog X.w) X (fun _ _ _ => False) := fun pins σ H s e s' I c => passes_call (W := fun _ _ _ _ => False) takes0 (fun _ _ _ _ z => z) pins σ H s e s' I c
end WP
namespace WP
open PySem PySem.Spec PyProof.Rows L2
/-- no star -/
def noStar : Expr → Bool
  | .Starred _ _ => false
  | _ => true
theorem starEach_no {e : Expr} {es : List Expr} {env : Env} (h : noStar e = true) : starEach (e :: es) env = (false, eval e env) :: starEach es env := by
  cases e with
  | Starred a b => cases h
  | _ => rfl
theorem pa_consN {X : Cx} {e : Expr} {es : List Expr} {te : TE} {t : TA} (ha : PE X e te) (hr : PA X es t) (hs : noStar e = true := by rfl) : PA X (e :: es) (tCons te t) := pa_cons ha hr (starEach_no hs)
end WP

namespace WP
open PySem PySem.Spec PyProof.Rows L2
open SX (S S_len S_cat)
section
variable {X : Cx}
theorem pe_strL {x : Str} {j pos} (l : List Nat) (h : x = S l) : PE X (.Constant (.str x) j pos) (tC (.str (S l))) := by subst h; exact pe_str
/-- text * number -/
def rMulS : R2 := fun x y H Q => ∃ (a : Str) (i : Int), x = .str a ∧ y = .int i ∧ MulOk a i ∧ Q (.str (Txt.mul a i)) H
theorem op_mul_str : OpR X (binaryOp .Mult) rMulS := by
  intro pins s σ H x y v u Q I rx ry h
  obtain ⟨a, i, rfl, rfl, hz, q⟩ := h
  obtain ⟨t, rfl⟩ := rx
  obtain ⟨t', rfl⟩ := ry
  exact SB.mul hz fun t' k => ⟨.str _, H, I.tok _, ⟨_, rfl⟩, q⟩
def rAddS : R2 := fun x y H Q => ∃ (a b : Str), x = .str a ∧ y = .str b ∧ a.length + b.length ≤ sizeLine ∧ Q (.str (a ++ b)) H
theorem op_addS : OpR X (binaryOp .Add) rAddS := op_add_str
def rZfill : V → List V → Hp → VK → Prop := fun x xs H Q => ∃ (a : Str) (i : Int), x = .str a ∧ xs = [.int i] ∧ PadOk i = true ∧ Q (.str (Txt.zfill a i)) H
theorem m_zfill : MtR X "str.zfill" rZfill := mt_zfill
def rIntS : List V → Hp → VK → Prop := fun xs H Q => ∃ (a : Str) (n : Int), xs = [.str a] ∧ PySem.intText? a = some n ∧ a.length ≤ 640 ∧ Q (.int n) H
theorem c_intS : CallR X (.type "int") rIntS := call_int_str
end
section
variable {a b l : List Nat} {i : Int} {H : Hp} {Q : VK}
theorem catS (q : Q (.str (S (a ++ b))) H) (h : a.length + b.length ≤ sizeLine := by size_fits) : rAddS (.str (S a)) (.str (S b)) H Q := ⟨_, _, rfl, rfl, by rw [S_len, S_len]; exact h, by rw [S_cat]; exact q⟩
theorem reps1 (c : Nat) : ∀ (k : Nat) (acc : Array Nat), ((List.replicate k #[c]).foldl (· ++ ·) acc) = (acc.toList ++ List.replicate k c).toArray
  | 0, acc => by simp
  | k + 1, acc => by
    rw [List.replicate_succ, List.foldl_cons, reps1 c k]
    simp [List.replicate_succ]
theorem mul_S (c : Nat) (i : Int) : Txt.mul (S [c]) i = S (List.replicate i.toNat c) := by
  unfold Txt.mul
  split
  · rename_i h
    rw [show i.toNat = 0 by omega]; rfl
  · rename_i h
    split
    · rename_i h2
      have : i = 1 := by
        rw [Bool.or_eq_true] at h2
        rcases h2 with h2 | h2
        · exact eq_of_beq h2
        · exact absurd h2 (by rw [S_len]; exact Bool.false_ne_true)
      subst this
      rfl
    · show (⟨(List.replicate i.toNat #[c]).foldl (· ++ ·) #[]⟩ : Str) = _
      rw [reps1]; simp [S]
theorem mulOk1 (c : Nat) {i : Int} (h : i ≤ 100000) (h2 : -100000 ≤ i) : MulOk (S [c]) i := by
  refine ⟨by rw [decide_eq_false (by omega), decide_eq_false (by omega)]; rfl, fun h1 _ => ?_, fun h1 _ => ?_⟩
  · rw [S_len]
    show ¬ (((1 : Nat) : Int) > _)
    have : (1 : Int) ≤ (2 ^ 63 - 1) / i := by
      rw [Int.le_ediv_iff_mul_le (by omega)]; omega
    omega
  · rw [S_len]
    unfold Builtin.Str.tooLong
    exact decide_eq_false (by rw [sizeLine_eq]; show ¬ (1 * i.toNat > _); omega)
theorem mulS {c : Nat} (h : i ≤ 100000) (h2 : -100000 ≤ i) (q : Q (.str (S (List.replicate i.toNat c))) H) : rMulS (.str (S [c])) (.int i) H Q :=
  ⟨_, _, rfl, rfl, mulOk1 c h h2, by rw [mul_S]; exact q⟩
/-- zfill of a text without a sign -/
theorem zfill_S (h : ∀ c, l.head? = some c → c ≠ 43 ∧ c ≠ 45) (hi : 0 ≤ i) : Txt.zfill (S l) i = S (List.replicate (i.toNat - l.length) 48 ++ l) := by
  unfold Txt.zfill
  rw [S_len]
  split
  · rename_i h1
    rw [show i.toNat - l.length = 0 by omega]; rfl
  · unfold PySem.zfilled
    have e : (S l).cps[0]? = l.head? := by simp [S, List.head?_eq_getElem?]
    rw [e]
    have fin : Builtin.Str.padded (S l) (i.toNat - l.length) 0 48 = S (List.replicate (i.toNat - l.length) 48 ++ l) := by
      unfold Builtin.Str.padded
      simp [S]
    split
    · rename_i hc; exact absurd rfl (h _ hc).1
    · rename_i hc; exact absurd rfl (h _ hc).2
    · exact fin
theorem zfillS (h : ∀ c, l.head? = some c → c ≠ 43 ∧ c ≠ 45) (hi : 0 ≤ i) (h2 : i ≤ 100000) (q : Q (.str (S (List.replicate (i.toNat - l.length) 48 ++ l))) H) : rZfill (.str (S l)) [.int i] H Q :=
  ⟨_, _, rfl, rfl, by unfold PadOk fitsSsize; rw [decide_eq_false (by omega), decide_eq_false (by omega)]; unfold Builtin.Str.tooLong; rw [decide_eq_false (by rw [sizeLine_eq]; omega)]; rfl, by rw [zfill_S h hi]; exact q⟩
theorem lenS' (h : l.length ≤ sizeLine) (q : Q (.int (l.length : Int)) H) {K : PySem.W.Frag} : rLen K [V.str (S l)] H Q := ⟨_, _, rfl, ⟨by rw [S_len]; exact h, rfl⟩, by rw [S_len]; exact q⟩
theorem strN {n : Nat} (h : n.log2 < 1920) (q : Q (.str (S (TL.numL n))) H) : rStrI [V.int (n : Int)] H Q := ⟨_, rfl, by rw [Int.natAbs_natCast]; exact h, by
  have e : Str.ofString (toString ((n : Nat) : Int)) = S (TL.numL n) := SX.num_S n
  rw [e]; exact q⟩
theorem intSd (h : l.all (fun c => decide (48 ≤ c) && decide (c ≤ 57)) = true) (hne : l ≠ []) (hl : l.length ≤ 640) (q : Q (.int ((NumText.digitsVal l : Nat) : Int)) H) : rIntS [V.str (S l)] H Q :=
  ⟨_, _, rfl, SX.int_S h hne (by omega), by rw [S_len]; exact hl, q⟩
theorem slS {lo hi : Option Int} (z : Str) (h : z.length ≤ sizeLine) (q : Q (.str (Txt.slice z lo hi)) H) : rSlS (.str z) lo hi H Q := ⟨z, rfl, h, by rw [C8.cutS_slice]; exact q⟩
theorem slTo (hi : 0 ≤ i) (h : l.length ≤ sizeLine) (q : Q (.str (S (l.take i.toNat))) H) : rSlS (.str (S l)) none (some i) H Q := slS _ (by rw [S_len]; exact h) (by rw [SX.slice_to hi]; exact q)
theorem slFrom (hi : 0 ≤ i) (h : l.length ≤ sizeLine) (q : Q (.str (S (l.drop i.toNat))) H) : rSlS (.str (S l)) (some i) none H Q := slS _ (by rw [S_len]; exact h) (by rw [SX.slice_from hi]; exact q)
/-- an index from the end -/
theorem idx_neg_hi {l1 : Option Int} {n : Nat} {i : Int} (h : i < 0) (h2 : 0 ≤ i + n) : Builtin.Str.strSliceIndices l1 (some i) 1 n = Builtin.Str.strSliceIndices l1 (some (i + n)) 1 n := by
  have h1 : ¬ (i + n < 0) := by omega
  simp only [Builtin.Str.strSliceIndices, h, h1, if_false, if_true]
theorem idx_neg_lo {l1 : Option Int} {n : Nat} {i : Int} (h : i < 0) (h2 : 0 ≤ i + n) : Builtin.Str.strSliceIndices (some i) l1 1 n = Builtin.Str.strSliceIndices (some (i + n)) l1 1 n := by
  have h1 : ¬ (i + n < 0) := by omega
  simp only [Builtin.Str.strSliceIndices, h, h1, if_false, if_true]
theorem slice_toN (h : i < 0) (h2 : 0 ≤ i + (l.length : Int)) : Txt.slice (S l) none (some i) = S (l.take (i + (l.length : Int)).toNat) := by
  rw [← SX.slice_to h2]
  unfold Txt.slice
  rw [S_len, idx_neg_hi h h2]
theorem slice_fromN (h : i < 0) (h2 : 0 ≤ i + (l.length : Int)) : Txt.slice (S l) (some i) none = S (l.drop (i + (l.length : Int)).toNat) := by
  rw [← SX.slice_from h2]
  unfold Txt.slice
  rw [S_len, idx_neg_lo h h2]
theorem slToN (hi : i < 0) (h2 : 0 ≤ i + (l.length : Int)) (h : l.length ≤ sizeLine) (q : Q (.str (S (l.take (i + (l.length : Int)).toNat))) H) : rSlS (.str (S l)) none (some i) H Q := slS _ (by rw [S_len]; exact h) (by rw [slice_toN hi h2]; exact q)
theorem slFromN (hi : i < 0) (h2 : 0 ≤ i + (l.length : Int)) (h : l.length ≤ sizeLine) (q : Q (.str (S (l.drop (i + (l.length : Int)).toNat))) H) : rSlS (.str (S l)) (some i) none H Q := slS _ (by rw [S_len]; exact h) (by rw [slice_fromN hi h2]; exact q)
theorem eqTS {a b : List Nat} (h : Q (.bl (decide (a = b))) H) : rEq (.str (S a)) (.str (S b)) H Q := ⟨rfl, by
  have e : decide ((S a : Str) = S b) = decide (a = b) := by
    by_cases h : a = b
    · subst h; rw [decide_eq_true rfl, decide_eq_true rfl]
    · rw [decide_eq_false h, decide_eq_false fun z => h (SX.S_inj z)]
  rw [dec_str, e]; exact h⟩
theorem neTS {a b : List Nat} (h : Q (.bl (!decide (a = b))) H) : rNe (.str (S a)) (.str (S b)) H Q := ⟨rfl, by
  have e : decide ((S a : Str) = S b) = decide (a = b) := by
    by_cases h : a = b
    · subst h; rw [decide_eq_true rfl, decide_eq_true rfl]
    · rw [decide_eq_false h, decide_eq_false fun z => h (SX.S_inj z)]
  rw [dec_str, e]; exact h⟩
/-- range with a step -/
theorem rng3 {ta : TA} {σ : L2.St} {R : It → Hp → Prop} (h : ta σ H fun vs H1 => ∃ (i j c : Int) (n : Nat), vs = [.int i, .int j, .int c] ∧ RgC i j c n ∧ R (Itc i c n) H1) : iRng3 ta σ H R := h
end
/-! ### the figures of a number -/
/-- k figures of n -/
def padL : Nat → Nat → List Nat
  | 0, _ => []
  | k + 1, n => padL k (n / 10) ++ [48 + n % 10]
theorem padL_len : ∀ k n, (padL k n).length = k
  | 0, _ => rfl
  | k + 1, n => by unfold padL; rw [List.length_append, padL_len]; rfl
theorem numL_app : ∀ (k q r : Nat), 0 < q → r < 10 ^ k → TL.numL (q * 10 ^ k + r) = TL.numL q ++ padL k r
  | 0, q, r, _, hr => by
    have : r = 0 := by simp at hr; exact hr
    subst this
    simp [padL]
  | k + 1, q, r, hq, hr => by
    have e10 : 10 ^ (k + 1) = 10 ^ k * 10 := Nat.pow_succ ..
    have hp : 0 < 10 ^ k := Nat.pow_pos (by decide)
    have b : 10 ≤ q * 10 ^ (k + 1) + r := by
      have : 1 * 10 ^ (k + 1) ≤ q * 10 ^ (k + 1) := Nat.mul_le_mul_right _ hq
      omega
    have d : (q * 10 ^ (k + 1) + r) / 10 = q * 10 ^ k + r / 10 := by
      rw [e10, ← Nat.mul_assoc]; omega
    have m : (q * 10 ^ (k + 1) + r) % 10 = r % 10 := by
      rw [e10, ← Nat.mul_assoc]; omega
    rw [TL.numL_step b, d, m, numL_app k q (r / 10) hq (by omega)]
    rw [show padL (k + 1) r = padL k (r / 10) ++ [48 + r % 10] from rfl, List.append_assoc]
theorem padL_zero : ∀ k, padL k 0 = List.replicate k 48
  | 0 => rfl
  | k + 1 => by unfold padL; rw [show 0 / 10 = 0 from rfl, padL_zero k, List.replicate_succ']
theorem padL_num : ∀ (k n : Nat), 0 < k → n < 10 ^ k → padL k n = List.replicate (k - (TL.numL n).length) 48 ++ TL.numL n
  | k + 1, n, _, h => by
    by_cases c : n < 10
    · rw [TL.numL_lt c]
      unfold padL
      rw [show n / 10 = 0 by omega, padL_zero, show n % 10 = n by omega]
      rfl
    · have hk : 0 < k := by
        rcases k with _ | k
        · simp at h; omega
        · omega
      have e10 : 10 ^ (k + 1) = 10 ^ k * 10 := Nat.pow_succ ..
      rw [TL.numL_step (by omega)]
      unfold padL
      rw [padL_num k (n / 10) hk (by omega), List.length_append, List.append_assoc]
      congr 2
      simp
theorem numL_head {n c : Nat} (h : (TL.numL n).head? = some c) : c ≠ 43 ∧ c ≠ 45 := by
  have m : c ∈ TL.numL n := List.mem_of_head? h
  have := TL.numL_digits n c m
  omega
theorem digits_rep (n : Nat) : NumText.digitsVal (49 :: List.replicate n 48) = 10 ^ n := by
  unfold NumText.digitsVal
  rw [List.foldl_cons]
  have : ∀ (n a : Nat), (List.replicate n 48).foldl (fun acc c => acc * 10 + (c - 48)) a = a * 10 ^ n := by
    intro n
    induction n with
    | zero => intro a; simp
    | succ n ih => intro a; rw [List.replicate_succ, List.foldl_cons, ih, Nat.pow_succ]; rw [Nat.sub_self, Nat.add_zero, Nat.mul_assoc, Nat.mul_comm 10]
  rw [this]; simp
end WP
namespace WP
open PySem PySem.Spec PyProof.Rows L2
section
variable {K : PySem.W.Frag} {σ : L2.St} {H : Hp} {Q : VK} {x v : V} {p : Addr} {xs : List V}
theorem bm {T : String} {r : V → List V → Hp → VK → Prop} {to : TE} {t : TA} (h : to σ H fun x H1 => tyV K T x H1 ∧ t σ H1 fun xs H2 => r x xs H2 Q) : tBM K T r to t σ H Q := h
theorem tyS {z : Str} {A : Prop} (q : A) : tyV K "str" (.str z) H ∧ A := ⟨rfl, q⟩
theorem gsub {to ti : TE} {t : TSet} {QS : L2.St → Hp → Prop} (h : to σ H fun o H1 => ti σ H1 fun i H2 => t o i v H2 fun H3 => QS σ H3) : gSub to ti t v σ H QS := h
theorem setL {k : Int} {j : Nat} {R : Hp → Prop} (hp : H p = some (.lst xs)) (hj : ixN xs.length k = some j) (q : R (upd H p (.lst (xs.set j v)))) : rSetL (.ref p) (.int k) v H R := ⟨p, xs, k, j, rfl, rfl, hp, hj, q⟩
theorem appL (hp : H p = some (.lst xs)) (hz : xs.length < sizeLine) (q : Q .non (upd H p (.lst (xs ++ [v])))) : rAppend (.ref p) [v] H Q := ⟨p, xs, v, rfl, rfl, hp, hz, q⟩
theorem tyL {A : Prop} (hp : SqL K H p xs) (q : A) : tyV K "list" (.ref p) H ∧ A := ⟨.inl ⟨rfl, xs, hp⟩, q⟩
theorem tyT (h : SqT K H p xs) : TyX K H (.ref p) (.type "tuple") := by
  rcases h with (h | ⟨o, h⟩) | h
  · exact .base (.tup h)
  · exact .fTuple h
  · obtain ⟨o, its, n, h1, h2, h3⟩ := h
    exact .kTuple h1 h2
/-- all objects but the one at d are kept -/
def Sx (d : Addr) (H H' : Hp) : Prop := ∀ a o, a ≠ d → H a = some o → H' a = some o
theorem Sx.refl {d : Addr} {H : Hp} : Sx d H H := fun _ _ _ e => e
theorem Sx.trans {d : Addr} {H H' H2 : Hp} (h : Sx d H H') (k : Sx d H' H2) : Sx d H H2 := fun a o n e => k a o n (h a o n e)
theorem Sx.of {d : Addr} {H H' : Hp} (h : Same H H') : Sx d H H' := fun a o _ e => h a o e
theorem Sx.upd {d : Addr} {H : Hp} {o : HO} : Sx d H (upd H d o) := fun a u n e => by rw [upd_ne n]; exact e
theorem sqtX {d : Addr} {H H' : Hp} {ys : List V} (e : Sx d H H') (hd : H d = some (.lst ys)) (h : SqT K H p xs) : SqT K H' p xs := by
  rcases h with (h | ⟨o, h⟩) | h
  · exact .inl (.inl (e _ _ (fun z => by rw [z, hd] at h; cases h) h))
  · exact .inl (.inr ⟨o, e _ _ (fun z => by rw [z, hd] at h; cases h) h⟩)
  · exact .inr h
end
end WP
namespace WP
theorem log2_lt {n k : Nat} (hk : 0 < k) (h : n < 2 ^ k) : n.log2 < k := by
  by_cases z : n = 0
  · subst z; exact hk
  · exact (Nat.log2_lt z).mpr h
end WP
namespace WP
open PySem PySem.Spec PyProof.Rows L2
theorem ifSS {c : Prop} [Decidable c] {a b : List Nat} {σ : L2.St} {H : Hp} {Q : VK} (q : Q (.str (SX.S (if c then a else b))) H) : if decide c = true then tC (.str (SX.S a)) σ H Q else tC (.str (SX.S b)) σ H Q := by
  by_cases h : c
  · rw [if_pos (decide_eq_true h)]; rw [if_pos h] at q; exact q
  · rw [if_neg (by rw [decide_eq_false h]; exact Bool.false_ne_true)]; rw [if_neg h] at q; exact q
end WP
namespace WP
open PySem PySem.Spec PyProof.Rows L2
section
variable {K : PySem.W.Frag} {H H' : Hp} {a d : Addr} {xs : List V}
theorem sqlX (e : Sx d H H') (n : a ≠ d) (h : SqL K H a xs) : SqL K H' a xs := by
  rcases h with (h | ⟨o, h⟩) | h
  · exact .inl (.inl (e _ _ n h))
  · exact .inl (.inr ⟨o, e _ _ n h⟩)
  · exact .inr h
end
end WP
namespace WP
open PySem PySem.Spec PyProof.Rows L2
/-- a text that may stand in data -/
def SOk (z : Str) : Prop := (PyData.str z).canLay0 = true
theorem SOk.sh {z : Str} (h : SOk z) : SeqAt.shaped (.str z) = true := Bool.and_eq_true_iff.mpr ⟨h, rfl⟩
theorem sok_S {l : List Nat} (h : ∀ c ∈ l, c < 1114112) : SOk (SX.S l) := by
  show (SX.S l).cps.all (· < 0x110000) = true
  rw [← Array.all_toList]
  exact List.all_eq_true.mpr fun c hc => decide_eq_true (h c hc)
end WP
namespace WP
open PySem PySem.Spec PyProof.Rows L2
theorem rg9 {j : Int} (h1 : 1 ≤ j) (h2 : j ≤ 1000) : RgC 0 j 9 ((j - 1) / 9 + 1).toNat := by
  have e : Builtin.Range.rangeSize 0 j 9 = (j - 1) / 9 + 1 := by
    unfold Builtin.Range.rangeSize
    rw [if_pos (by decide), if_pos (by omega), show j - 0 - 1 = j - 1 by omega]
  refine ⟨by decide, by decide, ?_, by rw [e]; omega⟩
  unfold Builtin.Range.small
  rw [e]
  simp only [Builtin.Range.rangeFitsLong, Bool.and_eq_true, Bool.or_eq_true, decide_eq_true_eq, beq_iff_eq]
  simp
  omega
end WP

namespace WJ
open PySem PySem.W PySem.Calls PyProof.Rows PySem.SC
section
variable {prog : Program} {w : World} {A : Around} {E : Value → Shared → Prop} {s : Shared}
/-- x.join(reversed(a list)): the walk backwards is collected, then glued -/
theorem join_rev {x : Str} {t : Tok} {ys : List Str} {it l : Addr} {its : Array Value} {Q : Value → Shared → Prop} (hh : A.handled = none)
    (hi : s.heap.IsRevIter it l ((its.size : Int) - 1)) (hl : s.heap.IsList l its) (ne : l ≠ it) (hn : its.size ≤ sizeLine)
    (hy : ∀ acc : Array Value, ItemsOf (fun i v => its[its.size - 1 - i]? = some v) acc its.size → StrsAre acc.toList ys) (fit : (ys.map (·.length)).sum + ys.length * x.length ≤ 16777216)
    (done : ∀ (h' : Heap) (t' : Tok) (k : Nat), (∀ b o, b ≠ it → s.heap.get? b = some o → h'.get? b = some o) → Q (.str (Txt.join x ys) t') { s with heap := h', toks := k }) :
    wpAny (model prog w) A (call (.builtin "str.join") [.str x t, .ref it]) Q E s := by
  have T : s.TypeIs (.ref it) "list_reverseiterator" := Heap.IsRevIter.typeIs hi
  refine wpAny_call (codeAny_call_builtin F.slot_str_join.plain F.entry_str_join ?_)
  refine F.slot_str_join.check _ _ _ _ _ _ _ _ (typeIs_str _ _ _) (F.args_str_join_2 _ _) ?_
  rw [join_tree_other]
  refine wpAny_bind (wpAny_typeOf T ?_)
  show wpAny _ A.in1 ((pyIter (.ref it)).tryCatch _ >>= fun j => collect j >>= fun zs => joinTail x zs) _ _ s
  refine wpAny_bind (wpAny_tryCatch (wpAny_pyIter_revIter hi ?_))
  refine wpAny_bind (RT.collect_rev hh hi hl ne hn fun h' k acc kept got => ?_)
  obtain ⟨ts, et, ey⟩ := strsAre_values (hy acc got)
  subst ey
  rw [et]
  have ok := joinOk_of fit
  unfold JoinOk at ok
  rw [Bool.not_eq_true'] at ok
  have G : Gives (joinTail x (strValues ts)) (joinMade x ts) := by
    rcases ts with _ | ⟨_, _ | ⟨_, _⟩⟩ <;> exact gives_joinTail x _ ok
  refine G prog w A (wants Q E) { s with heap := h', toks := k } (post_join ts ⟨joinFit_length ok, fun t' k' => ?_⟩)
  exact done h' t' k' kept
end
end WJ
namespace WP
open PySem PySem.Spec PyProof.Rows L2
/-- sep.join(reversed(xs)), xs a list of texts -/
def tJoinRev (K : PySem.W.Frag) (to te : TE) : TE := fun σ H Q => to σ H fun x H1 => (∃ a, x = .str a) ∧ te σ H1 fun v H2 => ∃ (a : Str) (q : Addr) (ys : List Str),
  x = .str a ∧ v = .ref q ∧ SqL K H2 q (ys.map V.str) ∧ ((ys.map (·.length)).sum + ys.length * a.length ≤ 16777216) ∧ Q (.str (Txt.join a ys.reverse)) H2
theorem pe_joinRev {X : Cx} {o e : Expr} {to te : TE} {apos pos p2 pos2 : Pos} (hc : X.calm = true) (ho : PE X o to) (hg : Gl X "reversed") (hm : X.mg "reversed" = none) (he : PE X e te)
    (hs1 : starEach [.Call (.Name "reversed" p2) [e] [] pos2] X.env = [(false, eval (.Call (.Name "reversed" p2) [e] [] pos2) X.env)] := by rfl)
    (hs : starEach [e] X.env = (false, eval e X.env) :: starEach [] X.env := by rfl)
    (hbase : attributeBase o "join" X.env (eval o X.env) = eval o X.env := by rfl) (hline : (apos.endLine == pos.line) = true := by rfl) :
    PE X (.Call (.Attribute o "join" apos) [.Call (.Name "reversed" p2) [e] [] pos2] [] pos) (tJoinRev X.K to te) := by
  refine ⟨fun pins s σ H Q I h => ?_⟩
  refine PySem.Call_method1 hbase hs1 hline (thn (ho.run pins s σ H _ I h) fun v s1 ⟨x, H1, I1, r1, q1⟩ => ?_)
  obtain ⟨⟨a, rfl⟩, q1⟩ := q1
  obtain ⟨t, rfl⟩ := _root_.id r1
  refine ⟨"str", _, F.plainAttrs_str, F.slot_str_join, F.type_str_join, typeIs_str _ _ _, (fun _ e => nomatch e), Calls.callWith_builtin rfl (Calls.evalArgs_plain (Calls.spliced_cons ?_))⟩
  refine Call_ (ld_blt I1 hg hm PyProof.Rows.boot_reversed (PyProof.Rows.callWith_type1 (args_cons (thn (he.run pins s1 σ H1 _ I1 q1) fun u s2 ⟨v2, H2, I2, r2, q2⟩ => args_nil ?_) hs) hs rfl))
  obtain ⟨a', q, ys, ea, ev, hq, hz, q2⟩ := q2
  cases ea
  subst ev
  obtain rfl : u = Value.ref q := r2
  obtain ⟨its, rv, pl, hsz⟩ := I2.list hq
  refine call_reversed_list pl.isList (Calls.spliced_nil ?_)
  have k0 : ∀ b o, s2.heap.get? b = some o → (s2.heap.push (revObj q ((its.toArray.size : Int) - 1))).get? b = some o := fun b o e => Heap.get?_push_of_some _ e
  have I3 : Inv X pins σ H2 { s2 with heap := s2.heap.push (revObj q ((its.toArray.size : Int) - 1)) } := I2.kept (t' := s2.toks) k0
  obtain ⟨f0, f1, f2, f3, f4, f5⟩ := I2.fpOk (H' := H2) (b := s2.heap.objs.size) (Nat.le_refl _) (I2.hok.fresh (Nat.le_refl _))
  have hl := pl.isList
  obtain ⟨ol, hol, _⟩ := _root_.id hl
  refine WJ.join_rev (s := { s2 with heap := s2.heap.push (revObj q ((its.toArray.size : Int) - 1)) }) (ys := ys.reverse) (I2.ok.hd hc) ⟨_, Heap.get?_push_size _ rfl, rfl, rfl⟩ (hl.push _) (Nat.ne_of_lt (Heap.lt_size hol))
    (by rw [List.size_toArray, ← rv.length]; exact hsz) (fun acc hacc => ?_) (by rw [List.map_reverse, List.sum_reverse, List.length_reverse]; exact hz) fun h' t' k hk => ?_
  · have z := RT.vals_rev rv hacc
    rw [← List.map_reverse] at z
    exact strs_of_vals z
  · exact ⟨.str _, H2, I3.turned (t' := k) (fun b o hb e => hk b o hb e) f0 f1 f3 f4 f5, ⟨t', rfl⟩, q2⟩
end WP
namespace WP
open PySem PySem.Spec PyProof.Rows L2
theorem jr {K : PySem.W.Frag} {to te : TE} {σ : L2.St} {H : Hp} {Q : VK} (h : to σ H fun x H1 => (∃ a, x = .str a) ∧ te σ H1 fun v H2 => ∃ (a : Str) (q : Addr) (ys : List Str),
  x = .str a ∧ v = .ref q ∧ SqL K H2 q (ys.map V.str) ∧ ((ys.map (·.length)).sum + ys.length * a.length ≤ 16777216) ∧ Q (.str (Txt.join a ys.reverse)) H2) : tJoinRev K to te σ H Q := h
theorem joinL_nil : ∀ l : List (List Nat), TL.joinL [] l = l.flatten
  | [] => rfl
  | [p] => by simp [TL.joinL]
  | p :: q :: r => by rw [TL.joinL, joinL_nil (q :: r)]; simp
theorem join_nilS (ys : List (List Nat)) : Txt.join (SX.S []) (ys.map SX.S) = SX.S ys.flatten := by rw [SX.join_S, joinL_nil]
end WP

namespace WP
open PySem PySem.Spec PyProof.Rows L2
open SX (S S_len S_cat)
/-! ### tuples and dicts of the module -/
structure KTp (K : PySem.W.Frag) (mg : MG) (nm : Str) (xs : List V) : Prop where
  m : mg nm = some (.ref (ca mg nm))
  s : ∀ H, SqT K H (ca mg nm) xs
theorem KTp.mk' {K : PySem.W.Frag} {mg : MG} {nm : Str} {C : Addr} {xs : List V} (h : mg nm = some (.ref C)) (x : ∀ H, SqT K H C xs) : KTp K mg nm xs := by
  have e := ca_of h
  exact ⟨by rw [e]; exact h, by rw [e]; exact x⟩
structure KDc (K : PySem.W.Frag) (w : World) (mg : MG) (nm : Str) (l : List (Str × V)) : Prop where
  m : mg nm = some (.ref (ca mg nm))
  s : ∀ p ∈ l, KDct K w (ca mg nm) p.1 p.2
theorem KDc.mk' {K : PySem.W.Frag} {w : World} {mg : MG} {nm : Str} {C : Addr} {l : List (Str × V)} (h : mg nm = some (.ref C)) (x : ∀ p ∈ l, KDct K w C p.1 p.2) : KDc K w mg nm l := by
  have e := ca_of h
  exact ⟨by rw [e]; exact h, by rw [e]; exact x⟩
theorem kdc_cons {K : PySem.W.Frag} {w : World} {C : Addr} {k : Str} {v : V} {l : List (Str × V)} (h : KDct K w C k v) (t : ∀ p ∈ l, KDct K w C p.1 p.2) : ∀ p ∈ (k, v) :: l, KDct K w C p.1 p.2 := fun p hp => by
  rcases List.mem_cons.mp hp with e | e
  · subst e; exact h
  · exact t p e
section
variable {X : Cx}
theorem pe_ktup {x : Str} {xs : List V} {pos : Pos} (hg : Gl X x) (h : KTp X.K X.mg x xs) (hd : (x == ("__debug__" : Str)) = false := by decide) : PE X (.Name x pos) (tC (.ref (ca X.mg x))) := pe_glob hg h.m rfl hd
def rUpper : V → List V → Hp → VK → Prop := fun x xs H Q => ∃ a, x = .str a ∧ xs = [] ∧ a.length ≤ 5592405 ∧ Q (.str (Txt.upper a)) H
theorem m_upper : MtR X "str.upper" rUpper := mt_upper
theorem pe_dgetD {o e f : Expr} {td ty tx : TE} {apos cpos : Pos} (hu : X.A.units + 1 < cLine) (ho : PE X o td) (he : PE X e ty) (hf : PE X f tx) (m : M2 X o "get" apos e f cpos) : PE X (.Call (.Attribute o "get" apos) [e, f] [] cpos) (tDGet2 td ty tx) :=
  pe_dget2 hu ho he hf m
end
section
variable {K : PySem.W.Frag} {w : World} {σ : L2.St} {H : Hp} {Q : VK} {l : List Nat} {i : Int} {c : Nat}
theorem ixS1 (a : atI l i = some c) (hz : l.length ≤ sizeLine) (q : Q (.str (S [c])) H) : rIxS (.str (S l)) (.int i) H Q := ⟨S l, i, c, rfl, rfl, by rw [S_len]; exact hz, a, q⟩
theorem wstr {te : TE} {R : It → Hp → Prop} (h : te σ H fun v H1 => ∃ x, v = .str x ∧ R (Its x) H1) : iStr te σ H R := h
theorem upS (h : l.all (· < 128) = true) (hl : l.length ≤ 1000) (q : Q (.str (S (l.map up1))) H) : rUpper (.str (S l)) [] H Q := ⟨_, rfl, rfl, by rw [S_len]; omega, by rw [SX.upper_S h]; exact q⟩
theorem inV_S {s : List Nat} : ∀ {ls : List (List Nat)}, inV (.str (S s)) (ls.map fun a => V.str (S a)) = decide (s ∈ ls)
  | [] => rfl
  | a :: ls => by
    show (eqV (.str (S a)) (.str (S s)) || inV (.str (S s)) (ls.map fun a => V.str (S a))) = _
    rw [inV_S]
    show ((S a == S s) || _) = _
    rw [SX.S_beq_eq]
    by_cases h : a = s
    · subst h; simp
    · rw [decide_eq_false h, Bool.false_or]
      congr 1
      exact propext ⟨fun z => List.mem_cons_of_mem _ z, fun z => by
        rcases List.mem_cons.mp z with z | z
        · exact absurd z.symm h
        · exact z⟩
theorem flat_S : ∀ (ls : List (List Nat)), (ls.map fun a => V.str (S a)).all flatV = true
  | [] => rfl
  | a :: ls => flat_S ls
/-- a text in a tuple, a list of texts -/
theorem inT (ls : List (List Nat)) {p : Addr} {xs : List V} {s : List Nat} (h : SqT K H p xs) (e : xs = ls.map fun a => V.str (S a)) (q : Q (.bl (decide (s ∈ ls))) H) : rIn K false (.str (S s)) (.ref p) H Q := by
  subst e
  exact ⟨p, _, rfl, .inr h, rfl, flat_S ls, by rw [inV_S]; exact q⟩
theorem inL (ls : List (List Nat)) {p : Addr} {xs : List V} {s : List Nat} (h : SqL K H p xs) (e : xs = ls.map fun a => V.str (S a)) (q : Q (.bl (decide (s ∈ ls))) H) : rIn K false (.str (S s)) (.ref p) H Q := by
  subst e
  exact ⟨p, _, rfl, .inl h, rfl, flat_S ls, by rw [inV_S]; exact q⟩
/-- a sign in a text -/
def rInSign : R2 := fun x y H Q => ∃ (c : Nat) (z : Str), x = .str ⟨#[c]⟩ ∧ y = .str z ∧ Q (.bl (decide (c ∈ z.cps.toList))) H
theorem op_inSign {X : Cx} : OpR X (compareOp .In) rInSign := op_in_sign
theorem inSign (q : Q (.bl (decide (c ∈ l))) H) : rInSign (.str (S [c])) (.str (S l)) H Q := ⟨c, S l, rfl, rfl, q⟩
theorem ixK {nm : Str} {mg : MG} {ls : List (Str × V)} {s : Str} {v : V} (h : KDc K w mg nm ls) (m : (s, v) ∈ ls) (q : Q v H) : rIxD K w (.ref (ca mg nm)) (.str s) H Q := ⟨_, _, _, rfl, rfl, h.s _ m, q⟩
/-- displays of one and two pairs -/
theorem disp1 {a : Str} {v : V} (q : ∀ p, H p = none → Q (.ref p) (upd (upd H p (.dK [])) p (.dK [(.inr a, v)]))) : tDisp [(tC (.str a), tC v)] σ H Q := fun p hp =>
  ⟨upd_same, [(.inr a, v)], rfl, show 1 ≤ 15 by decide, q p hp⟩
theorem disp2 {a b : Str} {v u : V} (ne : ¬ a = b) (q : ∀ p, H p = none → Q (.ref p) (upd (upd H p (.dK [])) p (.dK [(.inr a, v), (.inr b, u)]))) : tDisp [(tC (.str a), tC v), (tC (.str b), tC u)] σ H Q := fun p hp =>
  ⟨upd_same, [(.inr a, v), (.inr b, u)], rfl, show 2 ≤ 15 by decide, by
    have e : mergeK [] [((Sum.inr a : Key), v), ((Sum.inr b : Key), u)] = [((Sum.inr a : Key), v), ((Sum.inr b : Key), u)] := by
      show putK (putK ([] : List (Key × V)) (Sum.inr a) v) (Sum.inr b) u = _
      have e1 : putK ([] : List (Key × V)) (Sum.inr a) v = [((Sum.inr a : Key), v)] := rfl
      rw [e1]
      unfold putK
      rw [if_neg (by simp [ne])]
      rfl
    rw [e]; exact q p hp⟩
theorem same_disp {p : Addr} {o u : HO} (hp : H p = none) : Same H (upd (upd H p o) p u) := fun b x e => by
  rw [upd_ne (ne_of_none e hp), upd_ne (ne_of_none e hp)]; exact e
end
end WP
namespace WP
open PySem PySem.Spec PyProof.Rows L2
theorem bm0 {K : PySem.W.Frag} {σ : L2.St} {H : Hp} {Q : VK} {T : String} {r : V → List V → Hp → VK → Prop} {to : TE} (h : to σ H fun x H1 => tyV K T x H1 ∧ r x [] H1 Q) : tBM0 K T r to σ H Q := h
/-- a for over the signs of a text -/
theorem for_txt {l : List Nat} {g : TG} {tb : TS} {D : Ends} {σ : L2.St} {H : Hp} (Pv : Nat → L2.St → Hp → Prop) (h0 : Pv 0 σ H)
    (hs : ∀ i c σ H, l[i]? = some c → Pv i σ H → g (.str (SX.S [c])) σ H fun σ2 H2 => tb { D with nx := Pv (i + 1), ct := Pv (i + 1), bk := D.nx } σ2 H2) (hd : ∀ σ H, Pv l.length σ H → D.nx σ H) :
    ∃ W : Nat → Nat → L2.St → Hp → Prop, (∃ m, W 0 m σ H) ∧ ∀ i m σ H, W i m σ H →
      ((Its (SX.S l)).stop i H ∧ D.nx σ H) ∨ ((Its (SX.S l)).go i H ∧ ∃ N : L2.St → Hp → Prop, (∀ σ' H', N σ' H' → ∃ m', m' < m ∧ W (i + 1) m' σ' H') ∧ ∀ x H', (Its (SX.S l)).yld i H x H' → g x σ H' fun σ2 H2 => tb { D with nx := N, ct := N, bk := D.nx } σ2 H2) := by
  have e : (SX.S l).cps.size = l.length := by simp [SX.S]
  refine for_it walk_str Pv h0 (fun _ _ _ _ _ => True.intro) (fun i x σ H H' hi p y => ?_) fun σ H p => hd σ H (by rw [← e]; exact p)
  obtain ⟨rfl, c, hc, rfl⟩ := y
  refine hs i c σ H' ?_ p
  simpa [SX.S] using hc
end WP
namespace WP
open PySem PySem.Spec PyProof.Rows L2
theorem pe_kdict {X : Cx} {x : Str} {xs : List (Str × V)} {pos : Pos} (hg : Gl X x) (h : KDc X.K X.w X.mg x xs) (hd : (x == ("__debug__" : Str)) = false := by decide) : PE X (.Name x pos) (tC (.ref (ca X.mg x))) := pe_glob hg h.m rfl hd
end WP
namespace WP
open PySem PySem.Spec PyProof.Rows L2
theorem lc {wi : TI} {g : TG} {tt : TT} {te : TE} {vs : List Nat} {σ : L2.St} {H : Hp} {Q : VK} (h : wi σ H fun J H1 => ∀ D, H1 D = none → ∃ W : Nat → Nat → Hp → Prop, (∃ m, W 0 m (upd H1 D (.lst []))) ∧ ∀ i m H, W i m H →
    (J.stop i H ∧ Q (.ref D) H) ∨ (J.go i H ∧ ∃ Nx : Hp → Prop, (∀ H', Nx H' → ∃ m', m' < m ∧ W (i + 1) m' H') ∧ ∀ x H', J.yld i H x H' → g x (wipe σ vs) H' fun σ2 H2 => wipe σ2 vs = wipe σ vs ∧ tt σ2 H2 fun b H3 =>
      if b = true then te σ2 H3 fun y H4 => ∃ acc, H4 D = some (.lst acc) ∧ acc.length < sizeLine ∧ Nx (upd H4 D (.lst (acc ++ [y]))) else Nx H3)) : tLc wi g tt te vs σ H Q := h
theorem lc_txt {l : List Nat} {g : TG} {tt : TT} {te : TE} {vs : List Nat} {σ : L2.St} {H1 : Hp} {D : Addr} {Qd : Hp → Prop} (Pv : Nat → Hp → Prop) (h0 : Pv 0 (upd H1 D (.lst [])))
    (hs : ∀ i c H, l[i]? = some c → Pv i H → g (.str (SX.S [c])) (wipe σ vs) H fun σ2 H2 => wipe σ2 vs = wipe σ vs ∧ tt σ2 H2 fun b H3 =>
      if b = true then te σ2 H3 fun y H4 => ∃ acc, H4 D = some (.lst acc) ∧ acc.length < sizeLine ∧ Pv (i + 1) (upd H4 D (.lst (acc ++ [y]))) else Pv (i + 1) H3) (hd : ∀ H, Pv l.length H → Qd H) :
    ∃ W : Nat → Nat → Hp → Prop, (∃ m, W 0 m (upd H1 D (.lst []))) ∧ ∀ i m H, W i m H →
      ((Its (SX.S l)).stop i H ∧ Qd H) ∨ ((Its (SX.S l)).go i H ∧ ∃ Nx : Hp → Prop, (∀ H', Nx H' → ∃ m', m' < m ∧ W (i + 1) m' H') ∧ ∀ x H', (Its (SX.S l)).yld i H x H' → g x (wipe σ vs) H' fun σ2 H2 => wipe σ2 vs = wipe σ vs ∧ tt σ2 H2 fun b H3 =>
        if b = true then te σ2 H3 fun y H4 => ∃ acc, H4 D = some (.lst acc) ∧ acc.length < sizeLine ∧ Nx (upd H4 D (.lst (acc ++ [y]))) else Nx H3) := by
  have e : (SX.S l).cps.size = l.length := by simp [SX.S]
  refine lc_it walk_str Pv h0 (fun _ _ _ _ => True.intro) (fun i x H H' hi p y => ?_) fun H p => hd H (by rw [← e]; exact p)
  obtain ⟨rfl, c, hc, rfl⟩ := y
  refine hs i c H' ?_ p
  simpa [SX.S] using hc
theorem at_S {ls : List (List Nat)} {i : Int} (h0 : 0 ≤ i) (h1 : i < (ls.length : Int)) : ∃ a ∈ ls, atI (ls.map fun a => V.str (SX.S a)) i = some (.str (SX.S a)) := by
  obtain ⟨j, rfl⟩ : ∃ j : Nat, i = (j : Int) := ⟨i.toNat, by omega⟩
  have hj : j < ls.length := by omega
  exact ⟨ls[j], List.getElem_mem hj, atI_nat (by rw [List.getElem?_map, List.getElem?_eq_getElem hj]; rfl)⟩
end WP
namespace WP
open PySem PySem.Spec PyProof.Rows L2
theorem dget2 {td ty tx : TE} {σ : L2.St} {H : Hp} {Q : VK} (h : td σ H fun x H1 => ∃ a, x = .ref a ∧ IsD H1 a ∧ ty σ H1 fun y H2 => tx σ H2 fun z H3 => ∃ o, DGet H3 a y o ∧ Q (o.getD z) H3) : tDGet2 td ty tx σ H Q := h
theorem dget {td ty : TE} {σ : L2.St} {H : Hp} {Q : VK} (h : td σ H fun x H1 => ty σ H1 fun y H2 => ∃ a v, x = .ref a ∧ DGet H2 a y (some v) ∧ Q v H2) : tDGet td ty σ H Q := h
theorem at_I {ls : List Int} {i : Int} (h0 : 0 ≤ i) (h1 : i < (ls.length : Int)) : ∃ a, atI (ls.map V.int) i = some (.int a) := ⟨_, at_ints h0 h1⟩
theorem valV1 {a c : List Nat} {v : V} : valV [((Sum.inr (SX.S a) : Key), v)] (Sum.inr (SX.S c)) = if a = c then some v else none := by
  by_cases h : a = c
  · subst h; rw [if_pos rfl]; exact valV_pos rfl
  · rw [if_neg h]; exact (valV_neg fun e => h (SX.S_inj (Sum.inr.inj e))).trans valV_nil
theorem valV2 {a b c : List Nat} {v u : V} : valV [((Sum.inr (SX.S a) : Key), v), ((Sum.inr (SX.S b) : Key), u)] (Sum.inr (SX.S c)) = if a = c then some v else if b = c then some u else none := by
  by_cases h : a = c
  · subst h; rw [if_pos rfl]; exact valV_pos rfl
  · rw [if_neg h]; exact (valV_neg fun e => h (SX.S_inj (Sum.inr.inj e))).trans valV1
end WP
namespace WP
open PySem PySem.Spec PyProof.Rows L2
theorem andOr {σ : L2.St} {H : Hp} {Q : VK} {ta tb tc : TE} {x y z : Bool} (ha : ∀ Q : VK, Q (.bl x) H → ta σ H Q) (hb : ∀ Q : VK, Q (.bl y) H → tb σ H Q) (hc : ∀ Q : VK, Q (.bl z) H → tc σ H Q)
    (q : Q (.bl (x && (y || z))) H) : tAndV ta (tOrV tb tc) σ H Q := by
  refine WP.andV (ha _ ⟨x, rfl, ?_⟩)
  cases x with
  | false => exact q
  | true =>
    refine WP.brT rfl (WP.orV (hb _ ⟨y, rfl, ?_⟩))
    cases y with
    | true => exact q
    | false => exact WP.brF rfl (hc _ q)
end WP
namespace WP
open PySem PySem.Spec PyProof.Rows L2
def rNotInSign : R2 := fun x y H Q => ∃ (c : Nat) (z : Str), x = .str ⟨#[c]⟩ ∧ y = .str z ∧ Q (.bl (!decide (c ∈ z.cps.toList))) H
theorem op_notInSign {X : Cx} : OpR X (compareOp .NotIn) rNotInSign := op_notIn_sign
theorem notInSign {c : Nat} {l : List Nat} {H : Hp} {Q : VK} (q : Q (.bl (!decide (c ∈ l))) H) : rNotInSign (.str (SX.S [c])) (.str (SX.S l)) H Q := ⟨c, SX.S l, rfl, rfl, q⟩
end WP
namespace WP
open PySem PySem.Spec PyProof.Rows L2
theorem chain {r r' : R2} {ta tb tc : TE} {σ : L2.St} {H : Hp} {Q : VK} (h : ta σ H fun x H1 => tb σ H1 fun y H2 => r x y H2 fun z H3 => ∃ k, z = .bl k ∧ (if k = true then tc σ H3 fun w' H4 => r' y w' H4 Q else Q (.bl false) H3)) : tChain r r' ta tb tc σ H Q := h
theorem notInL {K : PySem.W.Frag} {H : Hp} {Q : VK} (ls : List (List Nat)) {p : Addr} {xs : List V} {s : List Nat} (h : SqL K H p xs) (e : xs = ls.map fun a => V.str (SX.S a)) (q : Q (.bl (!decide (s ∈ ls))) H) : rIn K true (.str (SX.S s)) (.ref p) H Q := by
  subst e
  exact ⟨p, _, rfl, .inl h, rfl, flat_S ls, by rw [inV_S]; exact q⟩
end WP
namespace WP
open PySem PySem.Spec PyProof.Rows L2
theorem yes {σ : L2.St} {H : Hp} {t : Hp → Prop} {u : Hp → Prop} (h : t H) : tYes σ H (fun b H3 => if b = true then t H3 else u H3) := by
  show (if true = true then t H else u H)
  rw [if_pos rfl]; exact h
end WP
namespace WP
open PySem PySem.Spec PyProof.Rows L2
/-- text[i:j], both from the front -/
theorem slice_both {l : List Nat} {i j : Int} (h0 : 0 ≤ i) (h1 : i ≤ j) : Txt.slice (SX.S l) (some i) (some j) = SX.S ((l.drop i.toNat).take (j - i).toNat) := by
  have hl : ((SX.S l).length : Int) = (l.length : Int) := by rw [SX.S_len]
  by_cases hj : j ≤ (l.length : Int)
  · exact beq_iff_eq.mp (PyProof.Rows.slice_closesL (x := SX.S l) h0 h1 (by omega))
  · have e2 : Txt.slice (SX.S l) (some i) (some j) = Txt.slice (SX.S l) (some i) (some (l.length : Int)) := by
      unfold Txt.slice
      rw [SX.S_len, SX.idx_hi (by omega)]
    rw [e2]
    by_cases hi : i ≤ (l.length : Int)
    · have e := beq_iff_eq.mp (PyProof.Rows.slice_closesL (x := SX.S l) (j := (l.length : Int)) h0 hi (by omega))
      refine e.trans ?_
      show SX.S ((l.drop i.toNat).take ((l.length : Int) - i).toNat) = _
      rw [List.take_of_length_le (by rw [List.length_drop]; omega), List.take_of_length_le (by rw [List.length_drop]; omega)]
    · have e3 : Txt.slice (SX.S l) (some i) (some (l.length : Int)) = SX.S [] := by
        have hb := PyProof.Rows.slice_beyond (x := SX.S l) (i := i) (by omega)
        have hf := SX.slice_from (a := l) h0
        have e4 : Txt.slice (SX.S l) (some i) (some (l.length : Int)) = Txt.slice (SX.S l) (some i) none := by
          unfold Txt.slice
          rw [SX.S_len]
          have a1 : ¬ ((l.length : Int) < 0) := by omega
          have a2 : (1 : Int) > 0 := by decide
          simp only [Builtin.Str.strSliceIndices, a1, a2, if_false, if_true, Int.min_self, Int.max_eq_right (Int.natCast_nonneg l.length)]
        rw [e4, hf, List.drop_eq_nil_of_le (by omega)]
      rw [e3, List.drop_eq_nil_of_le (by omega), List.take_nil]
theorem slBoth {l : List Nat} {i j : Int} {H : Hp} {Q : VK} (h0 : 0 ≤ i) (h1 : i ≤ j) (h : l.length ≤ sizeLine) (q : Q (.str (SX.S ((l.drop i.toNat).take (j - i).toNat))) H) : rSlS (.str (SX.S l)) (some i) (some j) H Q := slS _ (by rw [SX.S_len]; exact h) (by rw [slice_both h0 h1]; exact q)
end WP
namespace WP
open PySem PySem.Spec PyProof.Rows L2
theorem m_lstripC {X : Cx} : MtR X "str.lstrip" (fun x xs H Q => ∃ a b, x = .str a ∧ xs = [.str b] ∧ a.length ≤ sizeLine ∧ Q (.str (Txt.lstripChars a b)) H) := mt_lstripChars
end WP
namespace WP
open PySem PySem.Spec PyProof.Rows L2
/-- in a comprehension's block: the fragment and the module named -/
theorem pe_ktupK {X : Cx} {K : PySem.W.Frag} {mg : MG} {x : Str} {xs : List V} {pos : Pos} (hg : Gl X x) (h : KTp K mg x xs) (hK : X.K = K) (hm : X.mg = mg) (hd : (x == ("__debug__" : Str)) = false := by decide) : PE X (.Name x pos) (tC (.ref (ca mg x))) := by
  subst hK hm
  exact pe_ktup hg h hd
theorem op_inK {X : Cx} {K : PySem.W.Frag} (h : X.K = K) : OpR X (compareOp .In) (rIn K false) := by subst h; exact op_in_seq
theorem op_notInK {X : Cx} {K : PySem.W.Frag} (h : X.K = K) : OpR X (compareOp .NotIn) (rIn K true) := by subst h; exact op_notIn_seq
end WP
namespace WP
open PySem PySem.Spec PyProof.Rows L2
theorem notInT {K : PySem.W.Frag} {H : Hp} {Q : VK} (ls : List (List Nat)) {p : Addr} {xs : List V} {s : List Nat} (h : SqT K H p xs) (e : xs = ls.map fun a => V.str (SX.S a)) (q : Q (.bl (!decide (s ∈ ls))) H) : rIn K true (.str (SX.S s)) (.ref p) H Q := by
  subst e
  exact ⟨p, _, rfl, .inr h, rfl, flat_S ls, by rw [inV_S]; exact q⟩
end WP

namespace WP
open PySem PySem.Spec PyProof.Rows L2 GxR
section
variable {X : Cx} {pins : List (Addr × Obj)} {σ : L2.St} {H : Hp} {s : Shared}
/-- the generator expression's scope in the def's scope sc -/
structure GenSc (sc scope : Scope) (x : Str) : Prop where
  kind : scope.kind = .function
  co : scope.isCoroutine = false
  cell : ∀ y ∈ scope.names, y.2 ≠ .cell
  dot : scope.names.lookup (".0" : Str) = some NameKind.local
  loc : scope.names.lookup x = some .local
  free : ∀ y ∈ scope.names, y.2 = .free → sc.names.lookup y.1 = some .cell ∨ sc.names.lookup y.1 = some .free
def gscB (sc scope : Scope) (x : Str) : Bool :=
  decide (scope.kind = .function) && !scope.isCoroutine && scope.names.all (fun y => !decide (y.2 = .cell)) && decide (scope.names.lookup (".0" : Str) = some NameKind.local) && decide (scope.names.lookup x = some .local) &&
    scope.names.all (fun y => !decide (y.2 = .free) || decide (sc.names.lookup y.1 = some .cell ∨ sc.names.lookup y.1 = some .free))
theorem gsc_by {sc scope : Scope} {x : Str} (h : gscB sc scope x = true) : GenSc sc scope x := by
  unfold gscB at h
  simp only [Bool.and_eq_true, Bool.not_eq_true', decide_eq_true_eq, List.all_eq_true, Bool.or_eq_true, decide_eq_false_iff_not] at h
  obtain ⟨⟨⟨⟨⟨h1, h2⟩, h3⟩, h4⟩, h5⟩, h6⟩ := h
  exact ⟨h1, h2, h3, h4, h5, fun y hy e => (h6 y hy).elim (fun z => absurd e z) id⟩
/-- what the walked thing xv gives in the state s1: n items, the i-th one as Pf tells -/
def ItOk (X : Cx) (P : Addr) (s1 : Shared) (xv : Value) (n : Nat) (Pf : Nat → Value → Prop) : Prop :=
  ∃ fpx : List Addr, (∀ b ∈ fpx, b < s1.heap.objs.size ∧ b ≠ P) ∧ ∀ (Q : Value → Shared → Prop),
    (∀ (o : Obj) (St : Nat → Heap → Prop), (∀ A' : Around, A'.handled = none → Walks X.prog X.w A' s1.heap.objs.size (s1.heap.objs.size :: fpx) [s1.heap.objs.size] n Pf St) → St 0 (s1.heap.push o) →
      Q (.ref s1.heap.objs.size) { s1 with heap := s1.heap.push o }) → wpAny (model X.prog X.w) X.A (pyIter xv) Q X.xe s1
theorem itOk_str {P : Addr} {s1 : Shared} {a : Str} {t : Tok} : ItOk X P s1 (.str a t) a.cps.size (SignAt a) :=
  ⟨[], (fun b hb => by cases hb), fun Q h => wpAny_pyIter_str fun o St W hst => h o St W hst⟩
theorem itOk_list {P : Addr} {s1 : Shared} {q : Addr} {its : Array Value} (hl : s1.heap.IsList q its) (hP : q ≠ P) : ItOk X P s1 (.ref q) its.size (fun i v => its[i]? = some v) := by
  obtain ⟨ol, hol, _⟩ := _root_.id hl
  have hlt := Heap.lt_size hol
  refine ⟨[q], fun b hb => ?_, fun Q h => wpAny_pyIter_list hl (h _ _ (fun A' hA => Walks.list hA _ q (Nat.ne_of_lt hlt) its) ⟨⟨_, Heap.get?_push_size _ rfl, rfl, rfl⟩, hl.push _⟩)⟩
  rcases List.mem_cons.mp hb with z | z
  · rw [z]; exact ⟨hlt, hP⟩
  · cases z
/-- the element in the generator's own frame -/
def EltG (X : Cx) (P : Addr) (scope : Scope) (x : Str) (elt : Expr) (s1 : Shared) (Pf : Nat → Value → Prop) (pb : Nat → Bool) : Prop :=
  ∀ (cenv : Env) (A' : Around) (E' : Value → Shared → Prop) (i : Nat) (v : Value) (s₂ : Shared) (m₂ : Str → Option Value), cenv.scope = scope → cenv.globals = X.env.globals → cenv.cells = cloFrom X.env.cells scope.names [] → A'.handled = none → Pf i v →
    s₂.heap.Ns cenv.locals m₂ → m₂ x = some v → (∀ b u, b ≠ P → s1.heap.get? b = some u → s₂.heap.get? b = some u) →
    wpAny (model X.prog X.w) A' (eval elt cenv) (fun y s₃ => y = .bool (pb i) ∧ Keeps s₂ s₃) E' s₂
def ReadyN (X : Cx) (pins : List (Addr × Obj)) (σ : L2.St) (H1 : Hp) (P : Addr) (n : Nat) (pb : Nat → Bool) (g : Addr) (s5 : Shared) : Prop :=
  ∃ (fp wr : List Addr) (G : Array GenState → Array GenState → Prop) (F : Nat → Value → Prop) (St : Nat → Shared → Prop),
    WalksS X.prog X.w X.A.in1 g fp wr G n F St ∧ St 0 s5 ∧ TruthOf X.prog X.w X.A.in1 F pb ∧ ∀ s', Moved wr G s5 s' → ∃ H2, Tabbed P H1 H2 ∧ Inv X pins σ H2 s'
theorem gen_go {c P : Addr} {elt iter : Expr} {x : Str} {px gpos : Pos} {scope : Scope} {te : TE} {k : Nat} {Q' : Value → Shared → Prop} {R : V → Hp → Prop}
    (hr : Room k X.A) (TB : TabB X.base X.mg c P) (hcode : X.env.code = .ref c) (S : GenSc X.env.scope scope x) (hi : PE X iter te)
    (hs : ∀ v, genFold iter X.env v = pure v) (I : Inv X pins σ H s) (h : te σ H fun v H1 => TabG H1 P ∧ R v H1)
    (hw : ∀ v xv H1 s1, TabG H1 P → R v H1 → RelV v xv → Inv X pins σ H1 s1 → ∃ n Pf pb, ItOk X P s1 xv n Pf ∧ EltG X P scope x elt s1 Pf pb ∧ ∀ g s5, ReadyN X pins σ H1 P n pb g s5 → Q' (.ref g) s5) :
    wpAny (model X.prog X.w) X.A (eval (.GeneratorExp elt [⟨.Name x px, iter, [], 0⟩] scope gpos) X.env) Q' X.xe s := by
  refine wpAny_GeneratorExp_walksQ hr.hd S.co (closure_ok fun y hy e => I.ok.has y.1 (S.free y hy e)) S.cell S.dot S.loc S.kind (by have := hr.dp; omega) ?_ hs
  refine thn (hi.run pins s σ H _ I h) fun xv s1 ⟨v, H1, I1, r1, ⟨ps, hP, ht⟩, q1⟩ => ?_
  obtain ⟨n, Pf, pb, ⟨fpx, hfpx, hIt⟩, hel, hQ⟩ := hw v xv H1 s1 ⟨ps, hP, ht⟩ q1 r1 I1
  refine hIt _ fun o St W hst => ?_
  have hPs : s1.heap.get? P = some { cls := .none, data := .fields ps } := I1.hok P _ hP
  have hPlt : P < s1.heap.objs.size := Heap.lt_size hPs
  have hP2 : (s1.heap.push o).get? P = some { cls := .none, data := .fields ps } := Heap.get?_push_of_some _ hPs
  have cd : PySem.W.CodeHd (s1.heap.push o) c P := TB.code.keeps fun b u e => Heap.get?_push_of_some _ (I1.bk b u e)
  have lim2 : (s1.heap.push o).NoLimit := I1.nolimit.push o
  have cont : ∀ (code : Value) (h3 : Heap) (tk : Nat) (ps' : Array Value), Heap.ExtBut P (s1.heap.push o) h3 → (s1.heap.push o).objs.size ≤ h3.objs.size → h3.get? P = some { cls := .none, data := .fields ps' } → (∃ more, ps' = ps ++ more) → TriplesOk ps'.toList →
      wpAny (model X.prog X.w) X.A (builtinsFor X.env.globals X.env.builtins) (fun bi s₄ =>
        ∃ Ia fp wr n₀ Pf St₀ pz F, Value.ref s1.heap.objs.size = .ref Ia ∧ (∀ A' : Around, A'.handled = none → Walks X.prog X.w A' Ia fp wr n₀ Pf St₀) ∧ St₀ 0 s₄.heap ∧ (∀ b ∈ fp, b < s₄.heap.objs.size) ∧ s₄.heap.NoLimit ∧ cStatics ∉ wr ∧
          (∀ href : Heap, (∀ b o, s₄.heap.get? b = some o → href.get? b = some o) →
            QuietGen X.prog X.w (genEnv scope (cloFrom X.env.cells scope.names []) s₄.heap.objs.size code bi X.env) x [] elt (List.range s₄.heap.objs.size) wr Pf pz F href) ∧
          (∀ a h₅ tk gs, gs.bare = true → s₄.heap.objs.size < a → h₅.objs.size = a + 1 → (∀ b o, s₄.heap.get? b = some o → h₅.get? b = some o) →
            WalksS X.prog X.w X.A.in4 a (a :: s₄.heap.objs.size :: List.range s₄.heap.objs.size) (s₄.heap.objs.size :: wr) (GenOnlyQ s₄.gens.size) (passing pz n₀ 0).length
              (fun j y => ∃ i, (passing pz n₀ 0)[j]? = some i ∧ F i y) (GenAt X.prog X.w X.A.in4 a s₄.gens.size s₄.heap.objs.size (List.range s₄.heap.objs.size) wr pz n₀ F) →
            GenAt X.prog X.w X.A.in4 a s₄.gens.size s₄.heap.objs.size (List.range s₄.heap.objs.size) wr pz n₀ F 0 { s₄ with gens := s₄.gens.push gs, toks := tk, heap := h₅ } →
            Q' (.ref a) { s₄ with gens := s₄.gens.push gs, toks := tk, heap := h₅ })) X.xe { s1 with heap := h3, toks := tk } := by
    intro code h3 tk ps' hx hsz hP3 hmore ht3
    obtain ⟨bm, ob, e1, e2, e3, e4, e5, e6, e7, e8⟩ := TB.bm
    have hcP : cStatics ≠ P := fun e => by
      obtain ⟨_, hns, _⟩ := I1.nolimit
      obtain ⟨o', es, ep, ho, hd, _⟩ := hns
      rw [e, hPs] at ho
      cases ho
      cases hd
    have hcl : cStatics < s1.heap.objs.size := let ⟨_, hns, _⟩ := I1.nolimit; hns.lt
    have sz2 : (s1.heap.push o).objs.size = s1.heap.objs.size + 1 := Heap.size_push ..
    have le3 : s1.heap.objs.size ≤ h3.objs.size := Nat.le_trans (Nat.le_succ _) (by have e := sz2; rw [e] at hsz; exact hsz)
    have keep3 : ∀ b u, b ≠ P → s1.heap.get? b = some u → h3.get? b = some u := fun b u hb e => hx b u hb (Heap.get?_push_of_some _ e)
    refine wpAny_builtinsFor (m := X.mg) (by rw [I1.ok.glob]; exact ((I1.mod.glob.keeps I1.bk).push o).extBut hx TB.gP) e1 e2 (keep3 _ _ e4 (I1.bk _ _ e5)) e6 e7 e8 ?_
    refine ⟨s1.heap.objs.size, s1.heap.objs.size :: fpx, [s1.heap.objs.size], n, Pf, St, (fun _ => true), (fun i y => y = .bool (pb i)), rfl, W, ?_, ?_, lim2.extBut hx hcP, ?_, ?_, ?_⟩
    · refine (W X.A hr.hd).frame _ _ _ hst fun b hb u e => hx b u (fun z => ?_) e
      rcases List.mem_cons.mp hb with z2 | z2
      · exact Nat.ne_of_lt hPlt (z.symm.trans z2)
      · exact (hfpx b z2).2 z
    · intro b hb
      rcases List.mem_cons.mp hb with z | z
      · rw [z]
        show s1.heap.objs.size < h3.objs.size
        omega
      · exact Nat.lt_of_lt_of_le (hfpx b z).1 le3
    · intro z
      rcases List.mem_cons.mp z with z | z
      · exact Nat.ne_of_lt hcl z
      · cases z
    · intro href hhref
      refine ⟨fun A' E' i v s₂ m₂ hA hPv hn hm hk => ?_, fun A' E' i v s₂ m₂ hA hPv hp hn hm hk => ?_⟩
      · simp only [List.forIn_nil]
        exact wpAny_pure ⟨rfl, keeps_refl _⟩
      · refine hel _ A' E' i v s₂ m₂ rfl rfl rfl hA hPv hn hm fun b u hb e => ?_
        have hlt := Heap.lt_size e
        refine hk b (List.mem_range.mpr ?_) (fun z => ?_) u (hhref b u (keep3 b u hb e))
        · exact Nat.lt_of_lt_of_le hlt le3
        · rcases List.mem_cons.mp z with z | z
          · exact Nat.ne_of_lt hlt z
          · cases z
    · intro g h5 tk5 gs hgb hag hsz5 hk5 W5 hat
      simp only [GxR.passing_true, List.length_range] at W5
      refine hQ g _ ⟨_, _, _, _, _, W5.in4_1, hat, ?_, fun s' hm => ?_⟩
      · intro j y sj Qj Ej hy hQj
        obtain ⟨i, hij, rfl⟩ := hy
        obtain ⟨hj, ej⟩ := List.getElem?_eq_some_iff.mp hij
        rw [List.getElem_range] at ej
        subst ej
        exact wpAny_truthy_bool hQj
      · obtain ⟨more, em⟩ := hmore
        have nwr : ∀ b u, s1.heap.get? b = some u → b ∉ h3.objs.size :: [s1.heap.objs.size] := fun b u e hb => by
          have hl := Heap.lt_size e
          rcases List.mem_cons.mp hb with z | z
          · rw [z] at hl
            have h9 : (h3.objs.size : Nat) < s1.heap.objs.size := hl
            omega
          · rcases List.mem_cons.mp z with z | z
            · rw [z] at hl
              exact Nat.lt_irrefl _ hl
            · cases z
        have J := inv_tab (more := more) (h' := s'.heap) (g' := s'.gens) (d' := s'.drawn) (t' := s'.toks) I1 hP (fun b u hb e => hm.heap b u (nwr b u e) (hk5 b u (keep3 b u hb e)))
          (by rw [← em]; exact hm.heap P _ (nwr P _ hPs) (hk5 P _ hP3)) (AllBare.movedS (I1.bare.push hgb) hm)
        rw [sh_eta s1 s' hm.os] at J
        refine ⟨upd H1 P (.tbl (ps ++ more)), ⟨⟨ps ++ more, upd_same, by rw [← em]; exact ht3⟩, fun b hb => upd_ne hb⟩, J⟩
  refine ⟨lim2, ?_⟩
  cases hf : codeAmong gpos ps.toList with
  | none =>
    refine wpAny_genexprCodeX hcode (cd.code hP2 ht) (cd.tab hP2) hf fun c' h' tk hx hge hlt hco' _ htab' _ => ?_
    obtain ⟨o1, vs, f1, tf, fl, tg, inF, tx, tt, op, _, _, _, _, _, _, _, _, _, htr, _⟩ := hco'
    exact cont _ h' tk _ hx (Nat.le_trans hge (Nat.le_of_lt hlt)) htab'.2 ⟨_, rfl⟩ htr
  | some cv =>
    refine wpAny_genexprCode_hit hcode (cd.code hP2 ht) hf ?_
    exact cont cv (s1.heap.push o) s1.toks ps (Heap.ExtBut.refl _ _) (Nat.le_refl _) hP2 ⟨#[], by simp⟩ ht
/-- cells of the def, seen from the generator -/
theorem clo_look {cells : List (Str × Addr)} {names : List (Str × NameKind)} {y : Str} {c : Addr} (hf : (y, NameKind.free) ∈ names) (hc : cells.lookup y = some c) : (cloFrom cells names []).lookup y = some c := by
  have h := cloFrom_has (cells := cells) (acc := []) hf
  obtain ⟨c', hc'⟩ := L2.mem_lookup h
  rw [hc']
  rcases cloFrom_mem (PySem.mem_of_lookup hc') with z | ⟨_, z⟩
  · cases z
  · rw [z, hc]; rfl
def trI (pb : Int → Bool) (l : List Int) (j : Nat) : Bool := match l[j]? with
  | some b => pb b
  | none => false
theorem trI_some {pb : Int → Bool} {l : List Int} {j : Nat} {b : Int} (h : l[j]? = some b) : trI pb l j = pb b := by
  unfold trI
  rw [h]
theorem all_trI (l : List Int) (pb : Int → Bool) : (List.range l.length).all (trI pb l) = l.all pb := by
  rw [Bool.eq_iff_iff, List.all_eq_true, List.all_eq_true]
  constructor
  · intro h b hb
    obtain ⟨j, hj, e⟩ := List.getElem_of_mem hb
    have q := h j (List.mem_range.mpr hj)
    rw [trI_some (List.getElem?_eq_getElem hj), e] at q
    exact q
  · intro h j hj
    have hj' := List.mem_range.mp hj
    rw [trI_some (List.getElem?_eq_getElem hj')]
    exact h _ (List.getElem_mem hj')
/-- x in y, y a captured text -/
theorem elt_in {P : Addr} {scope : Scope} {x y : Str} {p1 p2 p3 : Pos} {H1 : Hp} {s1 : Shared} {a z : Str} {i : Nat} (I1 : Inv X pins σ H1 s1) (hP : ∃ ps : Array Value, H1 P = some (.tbl ps))
    (hN : X.N[i]? = some y) (hv : σ[i]? = some (some (.str z))) (hk : X.env.scope.names.lookup y = some .cell) (hfr : (y, NameKind.free) ∈ scope.names) (hl : scope.names.lookup x = some .local) (hy : scope.names.lookup y = some .free) (hkd : scope.kind = .function)
    (hd : (x == ("__debug__" : Str)) = false := by decide) (hd2 : (y == ("__debug__" : Str)) = false := by decide) (hcd : (y == ("__classdict__" : Str)) = false := by decide) (hm : behindInMarks .In (.Name y p2) = false := by with_unfolding_all rfl) :
    EltG X P scope x (.Compare (.Name x p1) [.In] [.Name y p2] p3) s1 (SignAt a) (trF (fun c => decide (c ∈ z.cps.toList)) a.cps.toList) := by
  intro cenv A' E' j v s₂ m₂ e1 e2 e3 hA hPf hn hmx hkp
  obtain ⟨c, t, hc, rfl⟩ := hPf
  obtain ⟨m, hns, hloc⟩ := I1.loc
  obtain ⟨u, ru, lk⟩ := hloc i y _ hN hv (.inr (.inl hk))
  obtain ⟨t', rfl⟩ := _root_.id ru
  have hkk : X.env.kindOf y = some .cell := hk
  rcases lk with ⟨hk', _⟩ | ⟨_, cl, hcl, ⟨oc, hoc, hcd2⟩⟩
  · rw [hkk] at hk'; cases hk'
  have hcP : cl ≠ P := fun e => by
    obtain ⟨ps, hps⟩ := hP
    have q := I1.hok P _ hps
    have q' : s1.heap.get? P = some { cls := .none, data := .fields ps } := q
    rw [e, q'] at hoc
    cases hoc
    cases hcd2
  have ec : cenv.cells.lookup y = some cl := by rw [e3]; exact clo_look hfr hcl
  have hcell : s₂.heap.IsCell cl (some (.str z t')) := ⟨oc, hkp cl oc hcP hoc, hcd2⟩
  refine wpAny_Compare1 ?_ hm
  refine wpAny_Name (wpAny_loadName_local (by rw [e1]; exact hkd) (show cenv.scope.names.lookup x = some .local by rw [e1]; exact hl) hn hmx ?_) hd
  refine wpAny_Name (wpAny_loadName_free (by rw [e1]; exact hkd) (show cenv.scope.names.lookup y = some .free by rw [e1]; exact hy) ec hcell ?_ hcd) hd2
  refine PyProof.Rows.in_str ⟨?_, keeps_refl _⟩
  rw [trF_some (by rw [Array.getElem?_toList]; exact hc)]
  exact congrArg Value.bool (PySem.StrLaws.found_one z c)
/-- lo <= x <= hi and x != no, the three names of the module -/
theorem elt_rng {P : Addr} {scope : Scope} {x lo hi no : Str} {p1 p2 p3 p4 p5 p6 p7 p8 : Pos} {H1 : Hp} {s1 : Shared} {its : Array Value} {ns : List Int} {l h n : Int} {t1 t2 t3 : Tok} (I1 : Inv X pins σ H1 s1) (hP : ∃ ps : Array Value, H1 P = some (.tbl ps))
    (g1 : X.mg lo = some (.int l t1)) (g2 : X.mg hi = some (.int h t2)) (g3 : X.mg no = some (.int n t3)) (hv : Vals (ns.map V.int) its.toList)
    (hl : scope.names.lookup x = some .local) (k1 : scope.names.lookup lo = some .globalImplicit) (k2 : scope.names.lookup hi = some .globalImplicit) (k3 : scope.names.lookup no = some .globalImplicit) (hkd : scope.kind = .function)
    (d0 : (x == ("__debug__" : Str)) = false := by decide) (d1 : (lo == ("__debug__" : Str)) = false := by decide) (d2 : (hi == ("__debug__" : Str)) = false := by decide) (d3 : (no == ("__debug__" : Str)) = false := by decide) :
    EltG X P scope x (.BoolOp .And [.Compare (.Name lo p1) [.LtE, .LtE] [.Name x p2, .Name hi p3] p4, .Compare (.Name x p5) [.NotEq] [.Name no p6] p7] p8) s1 (fun i v => its[i]? = some v)
      (trI (fun c => decide (l ≤ c ∧ c ≤ h ∧ c ≠ n)) ns) := by
  intro cenv A' E' j v s₂ m₂ e1 e2 e3 hA hPf hn hmx hkp
  have hj : ∃ (c : Int) (tc : Tok), ns[j]? = some c ∧ v = .int c tc := by
    have hlen := hv.length
    obtain ⟨hjl, _⟩ := Array.getElem?_eq_some_iff.mp hPf
    have hj2 : j < ns.length := by simp only [List.length_map, Array.length_toList] at hlen; exact Nat.lt_of_lt_of_eq hjl hlen.symm
    obtain ⟨u, hu, ru⟩ := hv.get (i := j) (x := .int ns[j]) (by rw [List.getElem?_map, List.getElem?_eq_getElem hj2]; rfl)
    rw [Array.getElem?_toList, hPf] at hu
    cases hu
    obtain ⟨tc, rfl⟩ := ru
    exact ⟨_, tc, List.getElem?_eq_getElem hj2, rfl⟩
  obtain ⟨c, tc, hc, rfl⟩ := hj
  have kd : cenv.scope.kind = .function := by rw [e1]; exact hkd
  have gns : s₂.heap.Ns cenv.globals X.mg := by
    rw [e2, I1.ok.glob]
    obtain ⟨o, es, ep, ho, hd, r⟩ := I1.mod.glob.keeps I1.bk
    refine ⟨o, es, ep, hkp _ _ (fun e => ?_) ho, hd, r⟩
    obtain ⟨ps, hps⟩ := hP
    have q' : s1.heap.get? P = some { cls := .none, data := .fields ps } := I1.hok P _ hps
    rw [e, q'] at ho
    cases ho
    cases hd
  have ldx : ∀ {Q : Value → Shared → Prop} {pp : Pos}, Q (.int c tc) s₂ → wpAny (model X.prog X.w) A' (eval (.Name x pp) cenv) Q E' s₂ := fun q =>
    wpAny_Name (wpAny_loadName_local kd (show cenv.scope.names.lookup x = some .local by rw [e1]; exact hl) hn hmx q) d0
  have ldg : ∀ {y : Str} {val : Value} {Q : Value → Shared → Prop} {pp : Pos}, X.mg y = some val → scope.names.lookup y = some .globalImplicit → (y == ("__debug__" : Str)) = false → Q val s₂ → wpAny (model X.prog X.w) A' (eval (.Name y pp) cenv) Q E' s₂ := fun g k d q =>
    Calls.Name_function_global kd (show cenv.scope.names.lookup _ = some .globalImplicit by rw [e1]; exact k) (Calls.loadGlobal_global gns g q) d
  rw [trI_some hc]
  refine wpAny_And2 ?_
  refine Compare_chain (ldg g1 k1 d1 (chain_link (ldx (le_int ?_))))
  refine wpAny_truthy_bool ?_
  by_cases h1 : l ≤ c
  · rw [decide_eq_true h1]
    refine ite_tt (chain_last (ldg g2 k2 d2 (le_int ?_)))
    refine wpAny_truthy_bool ?_
    by_cases h2 : c ≤ h
    · rw [decide_eq_true h2]
      refine ite_tt (wpAny_Compare1 (ldx (ldg g3 k3 d3 (ne_int ?_))))
      refine ⟨?_, keeps_refl _⟩
      by_cases h3 : c = n
      · simp [h3]
      · simp [h1, h2, h3]
    · rw [decide_eq_false h2]
      exact ite_ff ⟨by simp [h2], keeps_refl _⟩
  · rw [decide_eq_false h1]
    refine ite_ff ?_
    refine wpAny_truthy_bool (ite_ff ⟨by simp [h1], keeps_refl _⟩)
/-- all(.. for x in e): the walked thing of the kind R, the answer b -/
theorem all_go {c P : Addr} {elt iter : Expr} {x : Str} {px p pos gpos : Pos} {scope : Scope} {te : TE} {Wf : V → Hp → L2.St → VK → Prop} {k : Nat}
    (hr : Room k X.A) (hg : Gl X "all") (hm : X.mg "all" = none) (hb : bootBuiltins "all" = some (.builtin "all")) (TB : TabB X.base X.mg c P) (hcode : X.env.code = .ref c) (S : GenSc X.env.scope scope x) (hi : PE X iter te)
    (hs : ∀ v, genFold iter X.env v = pure v)
    (he : starEach [.GeneratorExp elt [⟨.Name x px, iter, [], 0⟩] scope gpos] X.env = (false, eval (.GeneratorExp elt [⟨.Name x px, iter, [], 0⟩] scope gpos) X.env) :: starEach [] X.env)
    (hw : ∀ pins (σ : L2.St) (v : V) (xv : Value) (H1 : Hp) (s1 : Shared) (Q : VK), TabG H1 P → Wf v H1 σ Q → RelV v xv → Inv X pins σ H1 s1 → ∃ n Pf pb, ItOk X P s1 xv n Pf ∧ EltG X P scope x elt s1 Pf pb ∧ ∀ H2, Tabbed P H1 H2 → Q (.bl ((List.range n).all pb)) H2) :
    PE X (.Call (.Name "all" p) [.GeneratorExp elt [⟨.Name x px, iter, [], 0⟩] scope gpos] [] pos) (fun σ H Q => te σ H fun v H1 => TabG H1 P ∧ Wf v H1 σ Q) := by
  refine ⟨fun pins s σ H Q I h => ?_⟩
  refine wpAny_Call_Name_kw (ld_blt I hg hm hb ?_)
  refine PyProof.Rows.callWith_builtin1 ?_ he (by rfl)
  rw [he]
  show wpAny _ _ (spliced ((false, eval (.GeneratorExp elt [⟨.Name x px, iter, [], 0⟩] scope gpos) X.env) :: backTo pos (starEach [] X.env))) _ _ s
  refine Calls.spliced_cons (gen_go (R := fun v H1 => Wf v H1 σ Q) hr TB hcode S hi hs I h fun v xv H1 s1 hT q1 r1 I1 => ?_)
  obtain ⟨n, Pf, pb, h1, h2, h3⟩ := hw pins σ v xv H1 s1 Q hT q1 r1 I1
  refine ⟨n, Pf, pb, h1, h2, fun g s5 hG => ?_⟩
  obtain ⟨fp, wr, G, F, St, W, hst, htr, hI⟩ := hG
  refine Calls.spliced_nil ?_
  refine call_all_walkS (W.self 0 _ _ _ hst ⟨g, fp, wr, G, _, F, St, _, rfl, W, hst, htr, fun s' hmv => ?_⟩)
  obtain ⟨H2, hT, J⟩ := hI s' hmv
  exact ⟨.bl _, H2, J, rfl, h3 H2 hT⟩
/-- all(x in y for x in e), e and y texts; y the def's i-th name -/
def tAllC (P : Addr) (i : Nat) (te : TE) : TE := fun σ H Q => te σ H fun v H1 => TabG H1 P ∧ ∃ a z : Str, v = .str a ∧ σ[i]? = some (some (.str z)) ∧ ∀ H2, Tabbed P H1 H2 → Q (.bl (a.cps.toList.all fun c => decide (c ∈ z.cps.toList))) H2
theorem pe_allC {c P : Addr} {iter : Expr} {x y : Str} {px p pos gpos p1 p2 p3 : Pos} {scope : Scope} {te : TE} {k i : Nat}
    (hr : Room k X.A) (hg : Gl X "all") (hm : X.mg "all" = none) (hb : bootBuiltins "all" = some (.builtin "all")) (TB : TabB X.base X.mg c P) (hcode : X.env.code = .ref c) (S : GenSc X.env.scope scope x) (hi : PE X iter te)
    (hN : X.N[i]? = some y) (hk : X.env.scope.names.lookup y = some .cell) (hfr : (y, NameKind.free) ∈ scope.names) (hy : scope.names.lookup y = some .free)
    (hs : ∀ v, genFold iter X.env v = pure v)
    (he : starEach [.GeneratorExp (.Compare (.Name x p1) [.In] [.Name y p2] p3) [⟨.Name x px, iter, [], 0⟩] scope gpos] X.env = (false, eval (.GeneratorExp (.Compare (.Name x p1) [.In] [.Name y p2] p3) [⟨.Name x px, iter, [], 0⟩] scope gpos) X.env) :: starEach [] X.env := by rfl)
    (hd : (x == ("__debug__" : Str)) = false := by decide) (hd2 : (y == ("__debug__" : Str)) = false := by decide) (hcd : (y == ("__classdict__" : Str)) = false := by decide) (hmk : behindInMarks .In (Expr.Name y p2) = false := by with_unfolding_all rfl) :
    PE X (.Call (.Name "all" p) [.GeneratorExp (.Compare (.Name x p1) [.In] [.Name y p2] p3) [⟨.Name x px, iter, [], 0⟩] scope gpos] [] pos) (tAllC P i te) := by
  refine all_go (Wf := fun v H1 σ Q => ∃ a z : Str, v = .str a ∧ σ[i]? = some (some (.str z)) ∧ ∀ H2, Tabbed P H1 H2 → Q (.bl (a.cps.toList.all fun c => decide (c ∈ z.cps.toList))) H2) hr hg hm hb TB hcode S hi hs he fun pins σ v xv H1 s1 Q hT h r1 I1 => ?_
  obtain ⟨a, z, rfl, hv, hQ⟩ := h
  obtain ⟨t, rfl⟩ := _root_.id r1
  obtain ⟨ps, hP, _⟩ := hT
  refine ⟨_, _, _, itOk_str, elt_in I1 ⟨ps, hP⟩ hN hv hk hfr S.loc hy S.kind hd hd2 hcd hmk, fun H2 h2 => ?_⟩
  rw [all_signs]
  exact hQ H2 h2
/-- all(lo <= x <= hi and x != no for x in e), e a list of ints -/
def tAllR (K : PySem.W.Frag) (P : Addr) (l h n : Int) (te : TE) : TE := fun σ H Q => te σ H fun v H1 => TabG H1 P ∧ ∃ (q : Addr) (ns : List Int), v = .ref q ∧ SqL K H1 q (ns.map V.int) ∧ ∀ H2, Tabbed P H1 H2 → Q (.bl (ns.all fun c => decide (l ≤ c ∧ c ≤ h ∧ c ≠ n))) H2
theorem pe_allR {c P : Addr} {iter : Expr} {x lo hi no : Str} {px p pos gpos p1 p2 p3 p4 p5 p6 p7 p8 : Pos} {scope : Scope} {te : TE} {k : Nat} {l h n : Int}
    (hr : Room k X.A) (hg : Gl X "all") (hm : X.mg "all" = none) (hb : bootBuiltins "all" = some (.builtin "all")) (TB : TabB X.base X.mg c P) (hcode : X.env.code = .ref c) (S : GenSc X.env.scope scope x) (hi' : PE X iter te)
    (g1 : ∃ u, X.mg lo = some u ∧ RelV (.int l) u) (g2 : ∃ u, X.mg hi = some u ∧ RelV (.int h) u) (g3 : ∃ u, X.mg no = some u ∧ RelV (.int n) u)
    (k1 : scope.names.lookup lo = some .globalImplicit) (k2 : scope.names.lookup hi = some .globalImplicit) (k3 : scope.names.lookup no = some .globalImplicit)
    (hs : ∀ v, genFold iter X.env v = pure v)
    (he : starEach [.GeneratorExp (.BoolOp .And [.Compare (.Name lo p1) [.LtE, .LtE] [.Name x p2, .Name hi p3] p4, .Compare (.Name x p5) [.NotEq] [.Name no p6] p7] p8) [⟨.Name x px, iter, [], 0⟩] scope gpos] X.env = (false, eval (.GeneratorExp (.BoolOp .And [.Compare (.Name lo p1) [.LtE, .LtE] [.Name x p2, .Name hi p3] p4, .Compare (.Name x p5) [.NotEq] [.Name no p6] p7] p8) [⟨.Name x px, iter, [], 0⟩] scope gpos) X.env) :: starEach [] X.env := by rfl)
    (d0 : (x == ("__debug__" : Str)) = false := by decide) (d1 : (lo == ("__debug__" : Str)) = false := by decide) (d2 : (hi == ("__debug__" : Str)) = false := by decide) (d3 : (no == ("__debug__" : Str)) = false := by decide) :
    PE X (.Call (.Name "all" p) [.GeneratorExp (.BoolOp .And [.Compare (.Name lo p1) [.LtE, .LtE] [.Name x p2, .Name hi p3] p4, .Compare (.Name x p5) [.NotEq] [.Name no p6] p7] p8) [⟨.Name x px, iter, [], 0⟩] scope gpos] [] pos) (tAllR X.K P l h n te) := by
  obtain ⟨u1, g1, t1, rfl⟩ := g1
  obtain ⟨u2, g2, t2, rfl⟩ := g2
  obtain ⟨u3, g3, t3, rfl⟩ := g3
  refine all_go (Wf := fun v H1 σ Q => ∃ (q : Addr) (ns : List Int), v = .ref q ∧ SqL X.K H1 q (ns.map V.int) ∧ ∀ H2, Tabbed P H1 H2 → Q (.bl (ns.all fun c => decide (l ≤ c ∧ c ≤ h ∧ c ≠ n))) H2) hr hg hm hb TB hcode S hi' hs he fun pins σ v xv H1 s1 Q hT hq r1 I1 => ?_
  obtain ⟨q, ns, rfl, hq, hQ⟩ := hq
  obtain rfl : xv = Value.ref q := r1
  obtain ⟨its, rv, pl, hsz⟩ := I1.list hq
  obtain ⟨ps, hP, _⟩ := hT
  have hqP : q ≠ P := fun e => by
    have q' : s1.heap.get? P = some { cls := .none, data := .fields ps } := I1.hok P _ hP
    obtain ⟨o, nn, e1, _, _, e2⟩ := pl
    rw [e, q'] at e1
    cases e1
    cases e2
  refine ⟨_, _, _, itOk_list pl.isList hqP, elt_rng I1 ⟨ps, hP⟩ g1 g2 g3 (by simpa using rv) S.loc k1 k2 k3 S.kind d0 d1 d2 d3, fun H2 h2 => ?_⟩
  have e := rv.length
  rw [List.length_map] at e
  rw [List.size_toArray, ← e, all_trI]
  exact hQ H2 h2
end
end WP

namespace WP
open PySem PySem.Spec PyProof.Rows L2 GxR
/-- all but the tables stay, tables stay tables -/
def NT (u : HO) : Prop := ∀ ps, u ≠ .tbl ps
structure Sm (H H' : Hp) : Prop where
  k : ∀ b u, H b = some u → NT u → H' b = some u
  t : ∀ P, TabG H P → TabG H' P
theorem Sm.refl (H : Hp) : Sm H H := ⟨fun _ _ e _ => e, fun _ h => h⟩
theorem Sm.trans {H H' H2 : Hp} (a : Sm H H') (b : Sm H' H2) : Sm H H2 := ⟨fun x u e n => b.k x u (a.k x u e n) n, fun P h => b.t P (a.t P h)⟩
theorem Sm.of {H H' : Hp} (e : Same H H') : Sm H H' := ⟨fun b u h _ => e b u h, fun P ⟨ps, h, t⟩ => ⟨ps, e P _ h, t⟩⟩
theorem Sm.tab {H H' : Hp} {P : Addr} (g : TabG H P) (h : Tabbed P H H') : Sm H H' := by
  obtain ⟨ps, hP, ht⟩ := g
  refine ⟨fun b u e n => ?_, fun Q hq => ?_⟩
  · by_cases hb : b = P
    · rw [hb, hP] at e; exact absurd (Option.some.inj e).symm (n ps)
    · rw [h.2 b hb]; exact e
  · by_cases hb : Q = P
    · rw [hb]; exact h.1
    · obtain ⟨qs, h1, h2⟩ := hq
      exact ⟨qs, by rw [h.2 Q hb]; exact h1, h2⟩
theorem nt_tup {xs : List V} : NT (.tup xs) := fun _ z => by cases z
theorem nt_lst {xs : List V} : NT (.lst xs) := fun _ z => by cases z
theorem nt_frz {o : Obj} {x : HO} : NT (.frz o x) := fun _ z => by cases z
theorem Sm.tup {K : PySem.W.Frag} {H H' : Hp} {a : Addr} {xs : List V} (e : Sm H H') (h : SqT K H a xs) : SqT K H' a xs := by
  rcases h with (h | ⟨o, h⟩) | h
  · exact .inl (.inl (e.k _ _ h nt_tup))
  · exact .inl (.inr ⟨o, e.k _ _ h nt_frz⟩)
  · exact .inr h
theorem Sm.lst {K : PySem.W.Frag} {H H' : Hp} {a : Addr} {xs : List V} (e : Sm H H') (h : SqL K H a xs) : SqL K H' a xs := by
  rcases h with (h | ⟨o, h⟩) | h
  · exact .inl (.inl (e.k _ _ h nt_lst))
  · exact .inl (.inr ⟨o, e.k _ _ h nt_frz⟩)
  · exact .inr h
/-- what comes back, tables grown -/
def MetV (v : V) (H : Hp) (Q : VK) : Prop := ∀ H', Sm H H' → Q v H'
def MetT (xs : List V) (H : Hp) (Q : VK) : Prop := ∀ p H', Sm H H' → H' p = some (.tup xs) → Q (.ref p) H'
theorem MetT.new {xs : List V} {H H' : Hp} {Q : VK} (k : MetT xs H Q) (e : Sm H H') : ∀ p, H' p = none → Q (.ref p) (upd H' p (.tup xs)) := fun p hp =>
  k p _ (e.trans (.of (same_new hp))) upd_same
/-- the def x's code object and its table -/
def cod (K : PySem.W.Frag) (x : Str) : Addr := match PySem.W.tabIn K x with
  | some (c, _) => c
  | none => 0
def tbl (K : PySem.W.Frag) (x : Str) : Addr := match PySem.W.tabIn K x with
  | some (_, P) => P
  | none => 0
theorem cod_of {K : PySem.W.Frag} {x : Str} {c P : Addr} (h : PySem.W.tabIn K x = some (c, P)) : cod K x = c := by unfold cod; rw [h]
theorem tbl_of {K : PySem.W.Frag} {x : Str} {c P : Addr} (h : PySem.W.tabIn K x = some (c, P)) : tbl K x = P := by unfold tbl; rw [h]
/-- a def whose code object is c -/
structure FunC (K : PySem.W.Frag) (x qual : Str) (st : Stmt) (f : Addr) (fd : FuncData) (c : Addr) : Prop where
  ex : ∃ (oc : Value) (od : Option Addr) (kV doc pm : Value) (an : Option Addr) (ct : Value) (osl : Array (Option Value)),
    fd = PySem.W.fnOf x qual (defArgs st) (defBody st) (defScope st) .none kV doc pm an (.ref c) ct ∧ K.lookup f = some ⟨oc, od, .func fd, osl⟩ ∧ PySem.W.codeIn K (.ref c) qual = true
section
variable {P : Program} {w : World} {K : PySem.W.Frag} {mg : Str → Option Value} {base : Heap}
theorem FunC.ok {x qual : Str} {st : Stmt} {f : Addr} {fd : FuncData} {c : Addr} {N ps : List Str} {k : Nat} {sp : Sp} (F : FunC K x qual st f fd c) (S : FnScope N ps (defScope st)) (len : ∀ vs H Q E, sp vs H Q E → vs.length = ps.length)
    (hbody : ∀ (A : Around) (outer : List Env) (s : Shared) (H : Hp) (vs : List V) (Q : VK) (E : XK), Room k (A.deeper (envOfC qual (defScope st) s.heap.objs.size f (.ref c))) → sp vs H Q E →
      ∃ t, PSs (cxOf CX0 P w K mg base N qual (defScope st) f (.ref c) A outer s H E).nox (defBody st) t ∧ t { nx := fun _ H' => Q .non H', rt := Q } (start N vs) H) : FnOk P w K mg base CX0 (k + 1) f fd ps sp := by
  obtain ⟨oc, od, kV, doc, pm, an, ct, osl, rfl, lk, hcd⟩ := F.ex
  refine fn_of lk hcd S len fun A outer s H vs Q E hr hsp => ?_
  obtain ⟨t, h, q⟩ := hbody A outer s H vs Q E hr hsp
  exact ⟨t, h.nox, q⟩
theorem funC_mk {x qual : Str} {st : Stmt} {f : Addr} {c P' : Addr} {y : Str} {oc : Value} {od an : Option Addr} {osl : Array (Option Value)} {kV doc pm ct : Value} (l : K.lookup f = some ⟨oc, od, .func (PySem.W.fnOf x qual (defArgs st) (defBody st) (defScope st) .none kV doc pm an (.ref c) ct), osl⟩)
    (hc : PySem.W.codeIn K (.ref c) qual = true) (ht : PySem.W.tabIn K y = some (c, P')) : FunC K x qual st f (PySem.W.fnOf x qual (defArgs st) (defBody st) (defScope st) .none kV doc pm an (.ref c) ct) (cod K y) := by
  rw [cod_of ht]
  exact ⟨oc, od, kV, doc, pm, an, ct, osl, rfl, l, hc⟩
end
theorem FunC.toF {K : PySem.W.Frag} {x qual : Str} {st : Stmt} {f : Addr} {fd : FuncData} {c : Addr} (F : FunC K x qual st f fd c) (k : PySem.W.keepIn K (.ref f) = true) : Fun K x qual st f fd := by
  obtain ⟨oc, od, kV, doc, pm, an, ct, osl, e, lk, hcd⟩ := F.ex
  exact ⟨⟨oc, od, kV, doc, pm, an, _, ct, osl, e, lk, hcd⟩, k⟩
theorem tabB_of {base : Heap} {mg : Str → Option Value} {K : PySem.W.Frag} {x : Str} {c P : Addr} (h : LamX.TabB base mg c P) (ht : PySem.W.tabIn K x = some (c, P)) : GxR.TabB base mg (cod K x) (tbl K x) := by
  rw [cod_of ht, tbl_of ht]
  exact ⟨h.code, h.bm, h.gP⟩
/-- the end of a row whose defs hold generator expressions -/
theorem walk_ofG {l : PySem.W.OpenLaw} {n k : Nat} {q : Program} {loose : List Str} {XP : (Str → Option Value) → Heap → Prop} {YP : World → Heap → Prop} {d : DefRec} {K : Params → PySem.W.Frag} {CX : World → CXT} {x : Str}
    (hn : l.most = some n) (hn2 : n ≤ sizeLine) (hdf : d.params.defaults = []) (hr : Room k callerA) (hY : ∀ (w : World) (h : Heap), YP w h → (K w.params).In h)
    (F : ∀ (w : World) (mg : Str → Option Value) (fa : Addr) (h : Heap), YP w h → (K w.params).In h → h.Ns mainGlobals mg → mg d.name = some (.ref fa) →
      (∀ (x : Str) (c P : Addr), ((recsOf q).any fun e => e.name == x) = true → PySem.W.tabIn (K w.params) x = some (c, P) → PySem.W.CodeHd h c P ∧ h.get? P = some { cls := .none, data := .fields #[] }) → LamX.LawAtS l w (K w.params) (CX w) k n x mg fa h)
    (hCX : ∀ (w : World) (H : Hp) (s : Shared) (e : Value) (s' : Shared), CX w [] H s (fun _ _ _ => False) e s' → False) :
    PySem.W.WalkO q loose XP YP l.row.toRowW d [] (fun f vs => PySem.call f vs) := by
  refine Att.attach_callB hn hdf fun w s₀ s₁ mg mb fa o pm cd doc a vs ns G Y ho hd hcd hmg hobj hints hlen hbits hg => ?_
  have KX := hY w _ Y
  obtain ⟨fd, cs, sp, hT, nT, C, hb, hsp, hF⟩ := F w mg fa _ Y KX G.T.g hmg fun x c P hrec ht => by
    obtain ⟨dL, hf⟩ : ∃ dL, (recsOf q).find? (fun e => e.name == x) = some dL := by
      cases e : (recsOf q).find? (fun e => e.name == x) with
      | some dL => exact ⟨dL, rfl⟩
      | none =>
        rw [List.find?_eq_none] at e
        obtain ⟨z, hz, h2⟩ := List.any_eq_true.mp hrec
        exact absurd h2 (e z hz)
    exact PySem.W.tab_of G.T KX hf ht
  exact LamX.law_callTs KX G.T.g G.T.b G.T.builtins G.T.nolimit hg hT nT C G.T.bmain hobj hints (Nat.le_trans hlen hn2) hr hF hb (fun H hH hS => hsp H a ns hlen hbits hH hS) fun H e s' => hCX w H s₁ e s'
end WP

namespace WT
open PySem PySem.Spec PyProof.Rows L2 CwR
/-! ### with a token out: tests, ifs, loops, defs -/
def PTT (X : Cx) (e : Expr) (t : TT) : Prop :=
  ∀ (pins : List (Addr × Obj)) (s : Shared) (σ : L2.St) (H : Hp) (Q : Bool → Hp → Prop), 1 ≤ s.toks → Inv X pins σ H s → t σ H Q → wpAny (model X.prog X.w) X.A (isTrue e X.env (eval e X.env)) (TP X pins σ Q) X.xe s
def PWT (X : Cx) (e : Expr) (t : TT) : Prop :=
  ∀ (whole : Sem Value) (pins : List (Addr × Obj)) (s : Shared) (σ : L2.St) (H : Hp) (Q : Bool → Hp → Prop), 1 ≤ s.toks → Inv X pins σ H s → t σ H Q → wpAny (model X.prog X.w) X.A (isTrue e X.env whole) (TP X pins σ Q) X.xe s
section
variable {X : Cx} {st : Stmt} {rest : List Stmt} {t u : TS} {a b c e f : Expr} {te tf ta tb : TE} {tA tB tc : TT} {pos p : Pos}
theorem PTT.of (h : PT X e tA) : PTT X e tA := fun pins s σ H Q _ I q => h.run pins s σ H Q I q
theorem PWT.of (h : PW X e tA) : PWT X e tA := fun wh pins s σ H Q _ I q => h.run wh pins s σ H Q I q
theorem PWT.pt (h : PWT X e tA) : PTT X e tA := h _
theorem ptt_cmp {op : CmpOp} {r : R2} (ho : OpR X (compareOp op) r) (ha : PET X a ta) (hb : PET X b tb) (hm : behindInMarks op b = false) : PTT X (.Compare a [op] [b] pos) (tTest (tOp r ta tb)) := by
  intro pins s σ H Q h0 I h
  refine wpAny_isTrue_Compare1 (wpAny_mono (PySem.wpAny_toks (ha pins s σ H _ h0 I h)) (fun v s1 q => ?_) fun _ _ z => z.2) hm
  obtain ⟨hk, x, H1, I1, r1, q1⟩ := q
  refine thn (hb pins s1 σ H1 _ (Nat.le_trans h0 hk) I1 q1) fun u s2 ⟨y, H2, I2, r2, q2⟩ => thn (ho pins s2 σ H2 x y v u _ I2 r1 r2 q2) fun c s3 ⟨z, H3, I3, r3, k, e, q3⟩ => ?_
  subst e
  cases r3
  exact wpAny_truthy_bool ⟨H3, I3, q3⟩
theorem pwt_and {rest : List Expr} {tB' : TT} (ha : PTT X a tA) (hb : PWT X (.BoolOp .And (b :: rest) pos) tB') : PWT X (.BoolOp .And (a :: b :: rest) pos) (tAnd tA tB') := by
  intro wh pins s σ H Q h0 I h
  refine isTrue_and (wpAny_mono (PySem.wpAny_toks (ha pins s σ H _ h0 I h)) (fun c s1 q => ?_) fun _ _ z => z.2)
  obtain ⟨hk, H1, I1, q1⟩ := q
  cases c with
  | true => exact hb wh pins s1 σ H1 Q (Nat.le_trans h0 hk) I1 q1
  | false => exact ⟨H1, I1, q1⟩
theorem pat_one (ha : PET X e te) (hs : starEach [e] X.env = (false, eval e X.env) :: starEach [] X.env := by rfl) : PAT X [e] (tCons te tNil) := pat_cons ha pat_nil hs
theorem pet_callB {x : Str} {id : String} {r : List V → Hp → VK → Prop} {es : List Expr} {t : TA} (hc : CallR X (.builtin id) r) (hg : Gl X x) (hm : X.mg x = none) (hv : bootBuiltins x = some (.builtin id)) (ha : PAT X (e :: es) t) (hn : x ≠ "__name__" := by decide) (hdb : (x == ("__debug__" : Str)) = false := by decide)
    (he : starEach (e :: es) X.env = (false, eval e X.env) :: starEach es X.env := by rfl) (hpl : (backTo pos (starEach es X.env)).any (·.1) = false := by rfl) : PET X (.Call (.Name x p) (e :: es) [] pos) (tCB r t) := by
  intro pins s σ H Q h0 I h
  refine wpAny_Call_Name_kw (ld_blt I hg hm hv ?_ hn hdb)
  exact PyProof.Rows.callWith_builtin1 (thn (ha pos pins s σ H _ h0 I h) fun us s1 ⟨vs, H1, I1, r1, q1⟩ => hc pins s1 σ H1 vs us Q I1 r1 q1) he hpl
theorem pst_ifT {a b : List Stmt} (hc : PTT X c tc) (ha : PSsT X a t) (hb : PSsT X b u) : PST X (.If c a b pos) (tIfS tc t u) := by
  intro pins s σ H D h0 I h
  refine wpAny_If (wpAny_mono (PySem.wpAny_toks (hc pins s σ H _ h0 I h)) (fun d s1 q => ?_) fun _ _ z => z.2)
  obtain ⟨hk, H1, I1, q1⟩ := q
  cases d with
  | true => exact ha pins s1 σ H1 D (Nat.le_trans h0 hk) I1 q1
  | false => exact hb pins s1 σ H1 D (Nat.le_trans h0 hk) I1 q1
theorem psst_cut (h1 : PST X st t) (h2 : PSsT X rest u) : PSsT X (st :: rest) (Evl.tCut t u) := by
  intro pins s σ H D h0 I h
  obtain ⟨Mid, hm, hu⟩ := h
  refine wpAny_execs_cons (wpAny_mono (PySem.wpAny_toks (h1 pins s σ H { D with nx := Mid } h0 I hm)) (fun f s1 q => ?_) fun _ _ x => x.2)
  obtain ⟨hk, q⟩ := q
  cases f with
  | next =>
    obtain ⟨σ', H', I', q⟩ := q
    exact h2 pins s1 σ' H' D (Nat.le_trans h0 hk) I' (hu σ' H' q)
  | ret v => exact q
  | brk => exact q
  | cont => exact q
/-- for, its body with a token out -/
theorem pst_forT {tg iter : Expr} {body : List Stmt} {wi : TI} {g : TG} {tb : TS} (hp : PassesOwn (model X.prog X.w) X.A X.env X.xe) (hc : X.calm = true) (hi : PI X tg iter wi) (hg : PG X tg g) (hb : PSsT X body tb)
    (hs : ∀ x, foldedSetIterable iter X.env x = pure x := by intro _; rfl) : PST X (.For tg iter body [] pos) (tFor wi g tb) := by
  intro pins s σ H D h0 I h
  refine wpAny_For (wpAny_mono (PySem.wpAny_toks (hi.run pins s σ H _ I h)) (fun v s1 h1 => ?_) fun _ _ z => z.2) hs
  obtain ⟨hk1, h1⟩ := h1
  refine wpAny_mono (PySem.wpAny_toks h1) (fun itv s2 h2 => ?_) fun _ _ z => z.2
  obtain ⟨hk2, h2⟩ := h2
  obtain ⟨it, fp, tn, J, H2, e, I2, T, st2, f2, W, ⟨m0, w0⟩, turn⟩ := h2
  subst e
  have stat : ∀ {H' : Hp}, (∀ b ∈ fp, H' b = none) → ∀ b ∈ fp, FpOk X pins H' b := fun hn b hb => ⟨hn b hb, (f2 b hb).2⟩
  refine codeAny_forLoop_any (fun n s' => ∃ i σ' H', 1 ≤ s'.toks ∧ Inv X pins σ' H' s' ∧ tn i s'.heap ∧ (∀ b ∈ fp, H' b = none) ∧ W i n σ' H') ?_ m0 ⟨0, σ, H2, Nat.le_trans h0 (Nat.le_trans hk1 hk2), I2, st2, fun b hb => (f2 b hb).1, w0⟩
  rintro n s3 ⟨i, σ3, H3, k3, I3, st3, fr3, w3⟩
  rcases turn i n σ3 H3 w3 with ⟨stop, qn⟩ | ⟨go, N, hN, step⟩
  · refine wpAny_passesOwn hp (thn (T.done X rfl rfl rfl hc i pins s3 σ3 H3 X.xe I3 (stat fr3) st3 stop) fun r s4 ⟨hr, I4⟩ => ?_)
    subst hr
    exact wpAny_execs_nil ⟨σ3, H3, I4, qn⟩
  · refine wpAny_passesOwn hp (wpAny_mono (PySem.wpAny_toks (T.item X rfl rfl rfl hc i pins s3 σ3 H3 X.xe I3 (stat fr3) st3 go)) (fun r s4 q4 => ?_) fun _ _ z => z.2)
    obtain ⟨k4, u, hr, h4⟩ := q4
    subst hr
    refine wpAny_passesOwn hp (wpAny_mono (PySem.wpAny_toks h4) (fun _ s5 q5 => ?_) fun _ _ z => z.2)
    obtain ⟨k5, x, H5, I5, r5, y5, st5, fr5⟩ := q5
    have I5' := I5.pinned (stat fr5) (T.obj _ _ st5)
    refine wpAny_passesOwn hp (wpAny_mono (PySem.wpAny_toks (hg.run _ s5 σ3 H5 x u _ I5' r5 (step x H5 y5))) (fun _ s6 q6 => ?_) fun _ _ z => z.2)
    obtain ⟨k6, σ6, H6, I6, q6⟩ := q6
    have k06 := Nat.le_trans k3 (Nat.le_trans k4 (Nat.le_trans k5 k6))
    refine wpAny_passesOwn hp (wpAny_mono (PySem.wpAny_toks (hb _ s6 σ6 H6 _ k06 I6 q6)) (fun f s7 q7 => ?_) fun _ _ z => z.2)
    obtain ⟨k7, q7⟩ := q7
    have again : ∀ {σ7 : L2.St} {H7 : Hp}, Inv X (pins ++ pinsAt fp s5.heap) σ7 H7 s7 → N σ7 H7 → ∃ m, m < n ∧ ∃ i σ' H', 1 ≤ s7.toks ∧ Inv X pins σ' H' s7 ∧ tn i s7.heap ∧ (∀ b ∈ fp, H' b = none) ∧ W i m σ' H' := fun {σ7 H7} I7 n7 => by
      obtain ⟨m', hm, w7⟩ := hN σ7 H7 n7
      refine ⟨m', hm, i + 1, σ7, H7, Nat.le_trans k06 k7, I7.unpinned, T.keep _ _ _ st5 fun b hb o e => (I7.pin (b, o) (List.mem_append_right _ (List.mem_append_right _ (mem_pinsAt hb e)))).1, fun b hb => ?_, w7⟩
      obtain ⟨o, e, d⟩ := T.obj _ _ st5 b hb
      exact (I7.pin (b, o) (List.mem_append_right _ (List.mem_append_right _ (mem_pinsAt hb e)))).2.1
    cases f with
    | next => obtain ⟨σ7, H7, I7, n7⟩ := q7; exact again I7 n7
    | cont => obtain ⟨σ7, H7, I7, n7⟩ := q7; exact again I7 n7
    | brk => obtain ⟨σ7, H7, I7, q7⟩ := q7; exact ⟨σ7, H7, I7.unpinned, q7⟩
    | ret v => obtain ⟨x7, σ7, H7, I7, r7, q7⟩ := q7; exact ⟨x7, σ7, H7, I7.unpinned, r7, q7⟩
end
section
variable {P : Program} {w : World} {K : PySem.W.Frag} {mg : Str → Option Value} {base : Heap}
/-- a def with a parameter: at its entry a token is out -/
theorem okT {x qual : Str} {st : Stmt} {f : Addr} {fd : FuncData} {N ps : List Str} {k : Nat} {sp : Sp} (F : Fun K x qual st f fd) (S : FnScope N ps (defScope st)) (hnc : ∀ y ∈ (defScope st).names, y.2 ≠ .cell) (hps : 1 ≤ ps.length) (len : ∀ vs H Q E, sp vs H Q E → vs.length = ps.length)
    (hbody : ∀ (cdv : Value) (A : Around) (outer : List Env) (s : Shared) (H : Hp) (vs : List V) (Q : VK) (E : XK), Room k (A.deeper (envOfC qual (defScope st) s.heap.objs.size f cdv)) → sp vs H Q E →
      ∃ t, PSsT (cxOf CX0 P w K mg base N qual (defScope st) f cdv A outer s H E).nox (defBody st) t ∧ t { nx := fun _ H' => Q .non H', rt := Q } (start N vs) H) : FnOk P w K mg base CX0 (k + 1) f fd ps sp := by
  obtain ⟨oc, od, kV, doc, pm, an, cdv, ct, osl, rfl, lk, hcd⟩ := F.ex
  refine fn_ofT lk hcd S hnc hps len fun A outer s H vs Q E hr hsp => ?_
  obtain ⟨t, h, q⟩ := hbody cdv A outer s H vs Q E hr hsp
  exact ⟨t, fun pins s σ H D h0 I hw => wpAny_mono (h pins s σ H D h0 (I.wish _) hw) (fun _ _ q => q.unwish) fun _ _ z => False.elim z, q⟩
end
/-! ### the same as structures (so that they are not unfolded) -/
structure ET (X : Cx) (e : Expr) (t : TE) : Prop where
  run : PET X e t
structure TT1 (X : Cx) (e : Expr) (t : TT) : Prop where
  run : PTT X e t
structure TW (X : Cx) (e : Expr) (t : TT) : Prop where
  run : PWT X e t
structure ST (X : Cx) (st : Stmt) (t : TS) : Prop where
  run : PST X st t
structure SsT (X : Cx) (st : List Stmt) (t : TS) : Prop where
  run : PSsT X st t
section
variable {X : Cx} {st : Stmt} {rest : List Stmt} {t u : TS} {a b c e f : Expr} {te tf ta tb : TE} {tA tB tc : TT} {pos p apos c0 c1 : Pos} {y z : Str} {j k : Nat} {o : Expr} {to : TE}
theorem ET.of (h : PE X e te) : ET X e te := ⟨PET.of h⟩
theorem TT1.of (h : PT X e tA) : TT1 X e tA := ⟨PTT.of h⟩
theorem TW.of (h : PW X e tA) : TW X e tA := ⟨PWT.of h⟩
theorem TW.pt (h : TW X e tA) : TT1 X e tA := ⟨h.run.pt⟩
theorem ST.of (h : PS X st t) : ST X st t := ⟨PST.of h⟩
theorem SsT.of (h : PSs X rest t) : SsT X rest t := ⟨PSsT.of h⟩
theorem ss_cons (h1 : ST X st t) (h2 : SsT X rest u) : SsT X (st :: rest) (tSeq t u) := ⟨psst_cons h1.run h2.run⟩
theorem ss_cut (h1 : ST X st t) (h2 : SsT X rest u) : SsT X (st :: rest) (Evl.tCut t u) := ⟨psst_cut h1.run h2.run⟩
theorem ss_one (h : ST X st t) : SsT X [st] t := ⟨psst_one h.run⟩
theorem s_if {a b : List Stmt} (hc : TT1 X c tc) (ha : SsT X a t) (hb : SsT X b u) : ST X (.If c a b pos) (tIfS tc t u) := ⟨pst_ifT hc.run ha.run hb.run⟩
theorem s_for {tg iter : Expr} {body : List Stmt} {wi : TI} {g : TG} {tb : TS} (hp : PassesOwn (model X.prog X.w) X.A X.env X.xe) (hc : X.calm = true) (hi : PI X tg iter wi) (hg : PG X tg g) (hb : SsT X body tb)
    (hs : ∀ x, foldedSetIterable iter X.env x = pure x := by intro _; rfl) : ST X (.For tg iter body [] pos) (tFor wi g tb) := ⟨pst_forT hp hc hi hg hb.run hs⟩
theorem s_ret (he : ET X e te) : ST X (.Return (some e) pos) (tRet te) := ⟨pst_ret he.run⟩
theorem t_cmp {op : CmpOp} {r : R2} (ho : OpR X (compareOp op) r) (ha : ET X a ta) (hb : ET X b tb) (hm : behindInMarks op b = false) : TT1 X (.Compare a [op] [b] pos) (tTest (tOp r ta tb)) := ⟨ptt_cmp ho ha.run hb.run hm⟩
theorem w_and {rest : List Expr} {tB' : TT} (ha : TT1 X a tA) (hb : TW X (.BoolOp .And (b :: rest) pos) tB') : TW X (.BoolOp .And (a :: b :: rest) pos) (tAnd tA tB') := ⟨pwt_and ha.run hb.run⟩
theorem e_len {x : Str} {id : String} {r : List V → Hp → VK → Prop} (hc : CallR X (.builtin id) r) (hg : Gl X x) (hm : X.mg x = none) (hv : bootBuiltins x = some (.builtin id)) (ha : ET X e te) (hns : WP.noStar e = true := by rfl) (hn : x ≠ "__name__" := by decide) (hdb : (x == ("__debug__" : Str)) = false := by decide)
    (hpl : (backTo pos (starEach ([] : List Expr) X.env)).any (·.1) = false := by rfl) : ET X (.Call (.Name x p) [e] [] pos) (tCB r (tCons te tNil)) := ⟨pet_callB hc hg hm hv (pat_one ha.run (WP.starEach_no hns)) hn hdb (WP.starEach_no hns) hpl⟩
theorem e_op {op : Operator} {r : R2} (ho : OpR X (binaryOp op) r) (ha : ET X e te) (hb : ET X f tf) : ET X (.BinOp e op f pos) (tOp r te tf) := ⟨pet_op ho ha.run hb.run⟩
theorem e_replC (ho : PE X o to) (hyz : (y == z) = false := by decide)
    (hst : starEach [.Constant (.str y) j c0, .Constant (.str z) k c1] X.env = [(false, eval (.Constant (.str y) j c0) X.env), (false, eval (.Constant (.str z) k c1) X.env)] := by rfl)
    (hbase : attributeBase o "replace" X.env (eval o X.env) = eval o X.env := by rfl) (hline : (apos.endLine == pos.line) = true := by rfl) :
    ET X (.Call (.Attribute o "replace" apos) [.Constant (.str y) j c0, .Constant (.str z) k c1] [] pos) (tReplC to y z) := ⟨pet_replC ho hyz hst hbase hline⟩
theorem e_replT (ho : ET X o to) (hyz : (y == z) = false := by decide)
    (hst : starEach [.Constant (.str y) j c0, .Constant (.str z) k c1] X.env = [(false, eval (.Constant (.str y) j c0) X.env), (false, eval (.Constant (.str z) k c1) X.env)] := by rfl)
    (hbase : attributeBase o "replace" X.env (eval o X.env) = eval o X.env := by rfl) (hline : (apos.endLine == pos.line) = true := by rfl) :
    ET X (.Call (.Attribute o "replace" apos) [.Constant (.str y) j c0, .Constant (.str z) k c1] [] pos) (tReplC to y z) := ⟨pet_replT ho.run hyz hst hbase hline⟩
end
section
variable {P : Program} {w : World} {K : PySem.W.Frag} {mg : Str → Option Value} {base : Heap}
theorem okS {x qual : Str} {st : Stmt} {f : Addr} {fd : FuncData} {N ps : List Str} {k : Nat} {sp : Sp} (F : Fun K x qual st f fd) (S : FnScope N ps (defScope st)) (hnc : ∀ y ∈ (defScope st).names, y.2 ≠ .cell) (hps : 1 ≤ ps.length) (len : ∀ vs H Q E, sp vs H Q E → vs.length = ps.length)
    (hbody : ∀ (cdv : Value) (A : Around) (outer : List Env) (s : Shared) (H : Hp) (vs : List V) (Q : VK) (E : XK), Room k (A.deeper (envOfC qual (defScope st) s.heap.objs.size f cdv)) → sp vs H Q E →
      ∃ t, SsT (cxOf CX0 P w K mg base N qual (defScope st) f cdv A outer s H E).nox (defBody st) t ∧ t { nx := fun _ H' => Q .non H', rt := Q } (start N vs) H) : FnOk P w K mg base CX0 (k + 1) f fd ps sp :=
  okT F S hnc hps len fun cdv A outer s H vs Q E hr hsp => by
    obtain ⟨t, h, q⟩ := hbody cdv A outer s H vs Q E hr hsp
    exact ⟨t, h.run, q⟩
end
end WT
namespace WT
open PySem PySem.Spec PyProof.Rows L2 CwR
theorem repl {to : TE} {y z : Str} {σ : L2.St} {H : Hp} {Q : VK} (h : to σ H fun v H1 => ∃ x, v = .str x ∧ x.length + (x.length + 1) * z.length ≤ 16777216 ∧ Q (.str (Txt.replace x y z)) H1) : tReplC to y z σ H Q := h
end WT

namespace WZ
open PySem PySem.Spec PyProof.Rows L2
/-! ### zip of two texts -/
structure Ap (o ti to p q : Addr) : Prop where
  a1 : ti ≠ o
  a2 : to ≠ o
  a3 : p ≠ o
  a4 : q ≠ o
  b1 : ti ≠ to
  b2 : ti ≠ p
  b3 : ti ≠ q
  b4 : to ≠ p
  b5 : to ≠ q
  c1 : p ≠ q
theorem ap_new (n : Nat) : Ap (n + 4) (n + 2) (n + 3) n (n + 1) := by
  constructor <;> exact (show (_ : Nat) ≠ _ by omega)
abbrev Dr (P : Program) (w : World) (it : Addr) (x : Str) (St : Nat → Heap → Prop) : Prop :=
  ∀ A : Around, A.handled = none → Draws P w A it [it] x.cps.size (SignAt x) St
section
variable {P : Program} {w : World} {A : Around} {E : Value → Shared → Prop} {s : Shared}
theorem stE {St : Nat → Heap → Prop} {it : Addr} {x : Str} {i : Nat} {h h' : Heap} {c : Addr} (D : Dr P w it x St) (hA : A.handled = none) (st : St i h) (e : Heap.ExtBut c h h') (n : it ≠ c) : St i h' :=
  (D A hA).frame i h h' st fun b hb o ho => e b o (by rw [List.mem_singleton.mp hb]; exact n) ho
theorem live_lt {St : Nat → Heap → Prop} {it : Addr} {x : Str} {i : Nat} {h : Heap} (D : Dr P w it x St) (hA : A.handled = none) (st : St i h) : it < h.objs.size := by
  obtain ⟨o, ho⟩ := (D A hA).live i h st
  exact Heap.lt_size ho
/-- the next pair -/
theorem next_item {o ti to p q : Addr} {i j : Nat} {x y : Str} {S T : Nat → Heap → Prop} {a b : Value} {Q : Value → Shared → Prop} (hA : A.handled = none) (ap : Ap o ti to p q) (D1 : Dr P w p x S) (D2 : Dr P w q y T)
    (zo : IsZip s.heap o ti to .none) (pI : IsPair s.heap ti (.ref p) (.ref q)) (pO : IsPair s.heap to a b) (k1 : S i s.heap) (k2 : T j s.heap) (l1 : i < x.cps.size) (l2 : j < y.cps.size)
    (fin : ∀ u v h' tk, SignAt x i u → SignAt y j v → IsZip h' o ti to (rawInt s.heap.objs.size) → IsPair h' to u v → S (i + 1) h' → T (j + 1) h' → IsPair h' s.heap.objs.size u v → h'.objs.size = s.heap.objs.size + 1 →
      (∀ c ob, c ≠ o → c ≠ to → c ≠ p → c ≠ q → s.heap.get? c = some ob → h'.get? c = some ob) → Q (.ref s.heap.objs.size) { s with heap := h', toks := tk }) :
    wpAny (model P w) A (Builtin.«zip.__next__» ⟨[.ref o], []⟩) (fun f s' => ∃ v, f = .done (.ret v) ∧ Q v s') E s := by
  obtain ⟨hp, g, dn, t0, os⟩ := s
  show wpAny _ _ (field (.ref o) 2 >>= _) _ _ _
  refine wpAny_bind (wpAny_field zo rfl (x := .bool false) rfl ?_)
  show wpAny _ _ (field (.ref o) 3 >>= _) _ _ _
  refine wpAny_bind (wpAny_field zo rfl (x := .ref ti) rfl ?_)
  refine wpAny_bind (wpAny_seqItems pI rfl ?_)
  show wpAny _ _ (Builtin.SmallTypes.ownedTupleIsFree (.ref o) >>= _) _ _ _
  refine wpAny_bind (m := Builtin.SmallTypes.ownedTupleIsFree (.ref o)) ?_
  unfold Builtin.SmallTypes.ownedTupleIsFree
  refine wpAny_bind (wpAny_field zo rfl (x := .none) rfl (wpAny_pure ?_))
  simp only [if_true]
  refine wpAny_bind (wpAny_rule (wpAny_bind (wpAny_field zo rfl (x := .ref to) rfl (wpAny_bind (wpAny_setField_rec zo (by simp) fun h₁ z₁ e₁ => ?_)))))
  replace z₁ : IsZip h₁ o ti to .ellipsis := z₁
  replace e₁ : Heap.SameBut o hp h₁ := e₁
  refine wpAny_bind (m := forIn _ _ _) ?_
  simp only [List.zipIdx_cons, List.zipIdx_nil, List.forIn_cons, List.forIn_nil]
  refine wpAny_bind (wpAny_bind (wpAny_onRaise ?_))
  show wpAny _ _ (Builtin.SmallTypes.nextOf (.ref p) >>= _) _ _ ⟨h₁, g, dn, t0, os⟩
  refine wpAny_bind ((D1 _ hA).item i _ _ _ l1 (stE D1 hA k1 e₁.extBut ap.a3) fun u h₂ t1 hu s₂ e₂ => wpAny_pure ?_)
  replace e₂ : Heap.SameBut p h₁ h₂ := e₂
  have o₂ : IsPair h₂ to a b := e₂.extBut _ _ ap.b4 (e₁.extBut _ _ ap.a2 pO)
  refine wpAny_bind (wpAny_seqItems (s := ⟨h₂, g, dn, t1, os⟩) o₂ rfl ?_)
  refine wpAny_bind (wpAny_updateSeq_pair (s := ⟨h₂, g, dn, t1, os⟩) o₂ fun h₃ o₃ e₃ => ?_)
  replace o₃ : IsPair h₃ to u b := o₃
  replace e₃ : Heap.SameBut to h₂ h₃ := e₃
  refine wpAny_bind (wpAny_letGo (wpAny_pure ?_))
  refine wpAny_bind (wpAny_bind (wpAny_onRaise ?_))
  show wpAny _ _ (Builtin.SmallTypes.nextOf (.ref q) >>= _) _ _ ⟨h₃, g, dn, t1, os⟩
  have st2 : T j h₃ := stE D2 hA (stE D2 hA (stE D2 hA k2 e₁.extBut ap.a4) e₂.extBut ap.c1.symm) e₃.extBut ap.b5.symm
  refine wpAny_bind ((D2 _ hA).item j ⟨h₃, g, dn, t1, os⟩ _ _ l2 st2 fun v h₄ t2 hv s₄ e₄ => wpAny_pure ?_)
  replace e₄ : Heap.SameBut q h₃ h₄ := e₄
  have o₄ : IsPair h₄ to u b := e₄.extBut _ _ ap.b5 o₃
  refine wpAny_bind (wpAny_seqItems (s := ⟨h₄, g, dn, t2, os⟩) o₄ rfl ?_)
  refine wpAny_bind (wpAny_updateSeq_pair (s := ⟨h₄, g, dn, t2, os⟩) o₄ fun h₅ o₅ e₅ => ?_)
  replace o₅ : IsPair h₅ to u v := o₅
  replace e₅ : Heap.SameBut to h₄ h₅ := e₅
  refine wpAny_bind (wpAny_letGo (wpAny_pure (wpAny_pure ?_)))
  refine wpAny_bind (wpAny_seqItems (s := ⟨h₅, g, dn, t2, os⟩) o₅ rfl (wpAny_bind (wpAny_newTuple ?_)))
  have sz : h₅.objs.size = hp.objs.size := by rw [e₅.1, e₄.1, e₃.1, e₂.1, e₁.1]
  have z₅ : IsZip h₅ o ti to .ellipsis := e₅.extBut _ _ ap.a2.symm (e₄.extBut _ _ ap.a4.symm (e₃.extBut _ _ ap.a2.symm (e₂.extBut _ _ ap.a3.symm z₁)))
  have up5 : ∀ c ob, c ≠ o → c ≠ to → c ≠ p → c ≠ q → hp.get? c = some ob → h₅.get? c = some ob := fun c ob n1 n2 n3 n4 h =>
    e₅.extBut _ _ n2 (e₄.extBut _ _ n4 (e₃.extBut _ _ n2 (e₂.extBut _ _ n3 (e₁.extBut _ _ n1 h))))
  have s1₅ : S (i + 1) h₅ := stE D1 hA (stE D1 hA (stE D1 hA s₂ e₃.extBut ap.b4.symm) e₄.extBut ap.c1) e₅.extBut ap.b4.symm
  have s2₅ : T (j + 1) h₅ := stE D2 hA s₄ e₅.extBut ap.b5.symm
  have lo : o < h₅.objs.size := Heap.lt_size z₅
  have lt : to < h₅.objs.size := Heap.lt_size o₅
  have lp := live_lt D1 hA s1₅
  have lq := live_lt D2 hA s2₅
  show wpAny _ _ (Builtin.SmallTypes.ownedTupleHandOut (.ref o) (.ref h₅.objs.size) >>= _) _ _ _
  refine wpAny_bind (m := Builtin.SmallTypes.ownedTupleHandOut (.ref o) (.ref h₅.objs.size)) ?_
  unfold Builtin.SmallTypes.ownedTupleHandOut
  have z₆ : IsZip (h₅.push { cls := .type "tuple", data := .seq #[u, v] }) o ti to .ellipsis := Heap.get?_push_of_some _ z₅
  refine wpAny_bind (wpAny_setField_rec (s := ⟨h₅.push { cls := .type "tuple", data := .seq #[u, v] }, g, dn, t2, os⟩) z₆ (by simp) fun h₇ z₇ e₇ => ?_)
  replace z₇ : IsZip h₇ o ti to (rawInt h₅.objs.size) := z₇
  replace e₇ : Heap.SameBut o (h₅.push { cls := .type "tuple", data := .seq #[u, v] }) h₇ := e₇
  refine wpAny_setField_rec (s := ⟨h₇, g, dn, t2, os⟩) z₇ (by simp) fun h₈ z₈ e₈ => ?_
  replace z₈ : IsZip h₈ o ti to (rawInt h₅.objs.size) := z₈
  replace e₈ : Heap.SameBut o h₇ h₈ := e₈
  have up : ∀ c ob, c ≠ o → h₅.get? c = some ob → h₈.get? c = some ob := fun c ob n1 h => e₈.extBut _ _ n1 (e₇.extBut _ _ n1 (Heap.get?_push_of_some _ h))
  have t₈ : IsPair h₈ h₅.objs.size u v := e₈.extBut _ _ (Nat.ne_of_gt lo) (e₇.extBut _ _ (Nat.ne_of_gt lo) (Heap.get?_push_size _ rfl))
  have sz8 : h₈.objs.size = h₅.objs.size + 1 := by rw [e₈.1, e₇.1, Heap.size_push]
  rw [sz] at z₈ t₈ sz8
  refine wpAny_pure ⟨_, rfl, ?_⟩
  show Q (.ref h₅.objs.size) _
  rw [sz]
  have fr1 : S (i + 1) h₈ := (D1 A hA).frame _ _ _ s1₅ fun b hb ob h => by
    rw [List.mem_singleton.mp hb] at h ⊢
    exact up _ _ ap.a3 h
  have fr2 : T (j + 1) h₈ := (D2 A hA).frame _ _ _ s2₅ fun b hb ob h => by
    rw [List.mem_singleton.mp hb] at h ⊢
    exact up _ _ ap.a4 h
  exact fin u v h₈ t2 hu hv z₈ (up _ _ ap.a2 o₅) fr1 fr2 t₈ sz8 fun c ob n1 n2 n3 n4 h => up c ob n1 (up5 c ob n1 n2 n3 n4 h)
/-- no next pair -/
theorem next_end {o ti to p q : Addr} {i j : Nat} {x y : Str} {S T : Nat → Heap → Prop} {a b : Value} {Q : Fin → Shared → Prop} (hA : A.handled = none) (ap : Ap o ti to p q) (D1 : Dr P w p x S) (D2 : Dr P w q y T)
    (zo : IsZip s.heap o ti to .none) (pI : IsPair s.heap ti (.ref p) (.ref q)) (pO : IsPair s.heap to a b) (k1 : S i s.heap) (k2 : T j s.heap) (l : i = x.cps.size ∨ i < x.cps.size ∧ j = y.cps.size)
    (fin : ∀ h' e tk, (∀ c ob, c ≠ o → c ≠ to → c ≠ p → c ≠ q → s.heap.get? c = some ob → h'.get? c = some ob) → (∃ oe, h'.get? e = some oe ∧ oe.cls = .type "StopIteration") → E (.ref e) { s with heap := h', toks := tk }) :
    wpAny (model P w) A (Builtin.«zip.__next__» ⟨[.ref o], []⟩) Q E s := by
  obtain ⟨hp, g, dn, t0, os⟩ := s
  show wpAny _ _ (field (.ref o) 2 >>= _) _ _ _
  refine wpAny_bind (wpAny_field zo rfl (x := .bool false) rfl ?_)
  show wpAny _ _ (field (.ref o) 3 >>= _) _ _ _
  refine wpAny_bind (wpAny_field zo rfl (x := .ref ti) rfl ?_)
  refine wpAny_bind (wpAny_seqItems pI rfl ?_)
  show wpAny _ _ (Builtin.SmallTypes.ownedTupleIsFree (.ref o) >>= _) _ _ _
  refine wpAny_bind (m := Builtin.SmallTypes.ownedTupleIsFree (.ref o)) ?_
  unfold Builtin.SmallTypes.ownedTupleIsFree
  refine wpAny_bind (wpAny_field zo rfl (x := .none) rfl (wpAny_pure ?_))
  simp only [if_true]
  refine wpAny_bind (wpAny_rule (wpAny_bind (wpAny_field zo rfl (x := .ref to) rfl (wpAny_bind (wpAny_setField_rec zo (by simp) fun h₁ z₁ e₁ => ?_)))))
  replace z₁ : IsZip h₁ o ti to .ellipsis := z₁
  replace e₁ : Heap.SameBut o hp h₁ := e₁
  refine wpAny_bind (m := forIn _ _ _) ?_
  simp only [List.zipIdx_cons, List.zipIdx_nil, List.forIn_cons, List.forIn_nil]
  refine wpAny_bind (wpAny_bind (wpAny_onRaise ?_))
  show wpAny _ _ (Builtin.SmallTypes.nextOf (.ref p) >>= _) _ _ ⟨h₁, g, dn, t0, os⟩
  rcases l with rfl | ⟨l1, rfl⟩
  · refine wpAny_bind ((D1 _ hA).done ⟨h₁, g, dn, t0, os⟩ _ _ (stE D1 hA k1 e₁.extBut ap.a3) fun h₂ e e₂ he => ?_)
    obtain ⟨oe, hoe, hce⟩ := he
    have z₂ : IsZip h₂ o ti to .ellipsis := e₂ _ _ ap.a3.symm z₁
    have ez : e ≠ o := fun c => by subst c; rw [z₂] at hoe; cases hoe; simp at hce
    exact wpAny_setField_rec (s := ⟨h₂, g, dn, t0, os⟩) z₂ (by simp) fun h₃ _ e₃ => fin h₃ e t0 (fun c ob n1 _ n3 _ h => e₃.extBut _ _ n1 (e₂ _ _ n3 (e₁.extBut _ _ n1 h))) ⟨oe, e₃.extBut _ _ ez hoe, hce⟩
  · refine wpAny_bind ((D1 _ hA).item i ⟨h₁, g, dn, t0, os⟩ _ _ l1 (stE D1 hA k1 e₁.extBut ap.a3) fun u h₂ t1 hu s₂ e₂ => wpAny_pure ?_)
    replace e₂ : Heap.SameBut p h₁ h₂ := e₂
    have o₂ : IsPair h₂ to a b := e₂.extBut _ _ ap.b4 (e₁.extBut _ _ ap.a2 pO)
    refine wpAny_bind (wpAny_seqItems (s := ⟨h₂, g, dn, t1, os⟩) o₂ rfl ?_)
    refine wpAny_bind (wpAny_updateSeq_pair (s := ⟨h₂, g, dn, t1, os⟩) o₂ fun h₃ o₃ e₃ => ?_)
    replace e₃ : Heap.SameBut to h₂ h₃ := e₃
    refine wpAny_bind (wpAny_letGo (wpAny_pure ?_))
    refine wpAny_bind (wpAny_bind (wpAny_onRaise ?_))
    show wpAny _ _ (Builtin.SmallTypes.nextOf (.ref q) >>= _) _ _ ⟨h₃, g, dn, t1, os⟩
    have st2 := stE D2 hA (stE D2 hA (stE D2 hA k2 e₁.extBut ap.a4) e₂.extBut ap.c1.symm) e₃.extBut ap.b5.symm
    refine wpAny_bind ((D2 _ hA).done ⟨h₃, g, dn, t1, os⟩ _ _ st2 fun h₄ e e₄ he => ?_)
    obtain ⟨oe, hoe, hce⟩ := he
    have z₄ : IsZip h₄ o ti to .ellipsis := e₄ _ _ ap.a4.symm (e₃.extBut _ _ ap.a2.symm (e₂.extBut _ _ ap.a3.symm z₁))
    have ez : e ≠ o := fun c => by subst c; rw [z₄] at hoe; cases hoe; simp at hce
    exact wpAny_setField_rec (s := ⟨h₄, g, dn, t1, os⟩) z₄ (by simp) fun h₅ _ e₅ => fin h₅ e t1 (fun c ob n1 n2 n3 n4 h => e₅.extBut _ _ n1 (e₄ _ _ n4 (e₃.extBut _ _ n2 (e₂.extBut _ _ n3 (e₁.extBut _ _ n1 h))))) ⟨oe, e₅.extBut _ _ ez hoe, hce⟩
theorem py_item {o ti to p q : Addr} {i j : Nat} {x y : Str} {S T : Nat → Heap → Prop} {a b : Value} {Q : Option Value → Shared → Prop} (hA : A.handled = none) (ap : Ap o ti to p q) (D1 : Dr P w p x S) (D2 : Dr P w q y T)
    (zo : IsZip s.heap o ti to .none) (pI : IsPair s.heap ti (.ref p) (.ref q)) (pO : IsPair s.heap to a b) (k1 : S i s.heap) (k2 : T j s.heap) (l1 : i < x.cps.size) (l2 : j < y.cps.size)
    (fin : ∀ u v h' tk, SignAt x i u → SignAt y j v → IsZip h' o ti to (rawInt s.heap.objs.size) → IsPair h' to u v → S (i + 1) h' → T (j + 1) h' → IsPair h' s.heap.objs.size u v → h'.objs.size = s.heap.objs.size + 1 →
      (∀ c ob, c ≠ o → c ≠ to → c ≠ p → c ≠ q → s.heap.get? c = some ob → h'.get? c = some ob) → Q (some (.ref s.heap.objs.size)) { s with heap := h', toks := tk }) :
    wpAny (model P w) A (pyNext (.ref o)) Q E s := by
  have ty : s.TypeIs (.ref o) "zip" := ⟨_, zo, rfl⟩
  unfold pyNext
  refine wpAny_bind (wpAny_attempt (wpAny_callSpecial?_slot (name := Str.ofString "__next__") ty F.slot_zip_next (wpAny_call_entry F.slot_zip_next ty F.entry_zip_next ?_ (F.args_zip_next_1 _))))
  exact next_item hA ap D1 D2 zo pI pO k1 k2 l1 l2 fun u v h' tk b1 b2 b3 b4 b5 b6 b7 b8 b9 => wpAny_pure (fin u v h' tk b1 b2 b3 b4 b5 b6 b7 b8 b9)
theorem py_end {o ti to p q : Addr} {i j : Nat} {x y : Str} {S T : Nat → Heap → Prop} {a b : Value} {Q : Option Value → Shared → Prop} (hA : A.handled = none) (ap : Ap o ti to p q) (D1 : Dr P w p x S) (D2 : Dr P w q y T)
    (zo : IsZip s.heap o ti to .none) (pI : IsPair s.heap ti (.ref p) (.ref q)) (pO : IsPair s.heap to a b) (k1 : S i s.heap) (k2 : T j s.heap) (l : i = x.cps.size ∨ i < x.cps.size ∧ j = y.cps.size)
    (fin : ∀ h' tk, (∀ c ob, c ≠ o → c ≠ to → c ≠ p → c ≠ q → s.heap.get? c = some ob → h'.get? c = some ob) → Q none { s with heap := h', toks := tk }) : wpAny (model P w) A (pyNext (.ref o)) Q E s := by
  have ty : s.TypeIs (.ref o) "zip" := ⟨_, zo, rfl⟩
  unfold pyNext
  refine wpAny_bind (wpAny_attempt (wpAny_callSpecial?_slot (name := Str.ofString "__next__") ty F.slot_zip_next (wpAny_call_entry F.slot_zip_next ty F.entry_zip_next (next_end hA ap D1 D2 zo pI pO k1 k2 l fun h' e tk hk he => ?_) (F.args_zip_next_1 _))))
  obtain ⟨oe, hoe, hce⟩ := he
  exact wpAny_bind (wpAny_isInstance (T := "StopIteration") (b := true) ⟨oe, hoe, hce⟩ isSubtype_stop (wpAny_pure (fin _ _ hk)))
end
/-- the iterator of a text -/
def itTy (x : Str) : String := if x.cps.all (· < 128) = true then "str_ascii_iterator" else "str_iterator"
theorem dr_str {P : Program} {w : World} {it : Addr} {x : Str} {t : Tok} : Dr P w it x (fun i h => h.IsStrIter it (itTy x) x t i) := fun A hA => by
  unfold itTy
  by_cases h : x.cps.all (· < 128) = true
  · simp only [h, if_true]
    exact Draws.strAscii hA it x t
  · simp only [h, if_false]
    exact Draws.strWide hA it x t
section
variable {P : Program} {w : World} {A : Around} {E : Value → Shared → Prop} {s : Shared}
theorem iter_str {x : Str} {t : Tok} {Q : Value → Shared → Prop} (fin : Q (.ref s.heap.objs.size) { s with heap := s.heap.push { cls := .type (itTy x), data := .fields #[.str x t, .int 0 0] } }) : wpAny (model P w) A (pyIter (.str x t)) Q E s := by
  unfold itTy at fin
  cases h : x.cps.all (· < 128)
  · rw [h] at fin
    exact wpAny_pyIter_wide h fin
  · rw [h] at fin
    exact wpAny_pyIter_ascii h fin
end
abbrev P1 (h : Heap) (x : Str) (t : Tok) : Heap := h.push { cls := .type (itTy x), data := .fields #[.str x t, .int 0 0] }
abbrev P2 (h : Heap) (x y : Str) (t u : Tok) : Heap := (P1 h x t).push { cls := .type (itTy y), data := .fields #[.str y u, .int 0 0] }
abbrev P3 (h : Heap) (x y : Str) (t u : Tok) : Heap := (P2 h x y t u).push { cls := .type "tuple", data := .seq #[.ref h.objs.size, .ref (P1 h x t).objs.size] }
abbrev P4 (h : Heap) (x y : Str) (t u : Tok) : Heap := (P3 h x y t u).push { cls := .type "tuple", data := .seq #[.none, .none] }
abbrev P5 (h : Heap) (x y : Str) (t u : Tok) : Heap := (P4 h x y t u).push { cls := .type "zip", data := .fields #[.none, .bool false, .bool false, .ref (P2 h x y t u).objs.size, .ref (P3 h x y t u).objs.size] }
theorem new_str (x y : Str) (t u : Tok) : Meets (Builtin.«zip.__new__» ⟨[.type "zip", .str x t, .str y u], []⟩) (fun _ R s => R (.ok (.ret (.ref (P4 s.heap x y t u).objs.size))) { s with heap := P5 s.heap x y t u }) :=
  .of_wp fun prog w A R s h => by
    obtain ⟨hp, g, d, tk, os⟩ := s
    have hsub := sub_zip
    wp_walk using iter_str, iter_str
    exact ⟨_, rfl, h⟩
section
variable {P : Program} {w : World} {A : Around} {E : Value → Shared → Prop} {s : Shared}
theorem call_str {x y : Str} {t u : Tok} {Q : Value → Shared → Prop}
    (fin : ∀ h', IsZip h' (s.heap.objs.size + 4) (s.heap.objs.size + 2) (s.heap.objs.size + 3) .none → IsPair h' (s.heap.objs.size + 2) (.ref s.heap.objs.size) (.ref (s.heap.objs.size + 1)) → IsPair h' (s.heap.objs.size + 3) .none .none →
      h'.IsStrIter s.heap.objs.size (itTy x) x t 0 → h'.IsStrIter (s.heap.objs.size + 1) (itTy y) y u 0 → (∀ c ob, s.heap.get? c = some ob → h'.get? c = some ob) → Q (.ref (s.heap.objs.size + 4)) { s with heap := h' }) :
    wpAny (model P w) A (call (.type "zip") [.str x t, .str y u]) Q E s := by
  refine callType_new F.called_zip (by decide) (F.typeCall_zip_2 _ _) (F.newCall_zip_2 _ _) (fun obj => F.args_object_init_3 obj _ _) F.entry_zip_new (new_str x y t u) ?_
  have z1 : (P1 s.heap x t).objs.size = s.heap.objs.size + 1 := Heap.size_push ..
  have z2 : (P2 s.heap x y t u).objs.size = s.heap.objs.size + 2 := (Heap.size_push ..).trans (by rw [z1])
  have z3 : (P3 s.heap x y t u).objs.size = s.heap.objs.size + 3 := (Heap.size_push ..).trans (by rw [z2])
  have z4 : (P4 s.heap x y t u).objs.size = s.heap.objs.size + 4 := (Heap.size_push ..).trans (by rw [z3])
  have w5 : (P5 s.heap x y t u).get? (P4 s.heap x y t u).objs.size = some _ := Heap.get?_push_size _ rfl
  have w4 : (P5 s.heap x y t u).get? (P3 s.heap x y t u).objs.size = some _ := Heap.get?_push_of_some _ (Heap.get?_push_size _ rfl)
  have w3 : (P5 s.heap x y t u).get? (P2 s.heap x y t u).objs.size = some _ := Heap.get?_push_of_some _ (Heap.get?_push_of_some _ (Heap.get?_push_size _ rfl))
  have w2 : (P5 s.heap x y t u).get? (P1 s.heap x t).objs.size = some _ := Heap.get?_push_of_some _ (Heap.get?_push_of_some _ (Heap.get?_push_of_some _ (Heap.get?_push_size _ rfl)))
  have w1 : (P5 s.heap x y t u).get? s.heap.objs.size = some _ := Heap.get?_push_of_some _ (Heap.get?_push_of_some _ (Heap.get?_push_of_some _ (Heap.get?_push_of_some _ (Heap.get?_push_size _ rfl))))
  show _ ∧ _
  rw [z2, z3, z4] at w5
  rw [z1, z2] at w3
  rw [z3] at w4
  rw [z1] at w2
  rw [z4]
  refine ⟨⟨_, w5, rfl⟩, fin _ w5 w3 w4 ⟨_, w1, rfl, rfl⟩ ⟨_, w2, rfl, rfl⟩ fun c ob h => ?_⟩
  exact Heap.get?_push_of_some _ (Heap.get?_push_of_some _ (Heap.get?_push_of_some _ (Heap.get?_push_of_some _ (Heap.get?_push_of_some _ h))))
end
/-- the signs of two texts, side by side -/
def ItzS (x y : Str) : It :=
  ⟨fun i _ => i < x.cps.size ∧ i < y.cps.size,
    fun i H v H' => ∃ (T : Addr) (c d : Nat), v = .ref T ∧ H T = none ∧ x.cps[i]? = some c ∧ y.cps[i]? = some d ∧ H' = upd H T (.tup [.str ⟨#[c]⟩, .str ⟨#[d]⟩]),
    fun i _ => i = x.cps.size ∨ i < x.cps.size ∧ i = y.cps.size⟩
theorem turn_zipS {P : Program} {w : World} {K : PySem.W.Frag} {elts : List Expr} {kk : Nat} {tpos : Pos} {x y : Str} {t u : Tok} {o ti to p q : Addr} (ap : Ap o ti to p q) :
    Turn P w K (.Tuple elts kk tpos) (ItzS x y) [o, ti, to, p, q] o (fun i h => IsZip h o ti to .none ∧ IsPair h ti (.ref p) (.ref q) ∧ (∃ a b, IsPair h to a b) ∧ h.IsStrIter p (itTy x) x t i ∧ h.IsStrIter q (itTy y) y u i) where
  mem := .head _
  obj := fun i h st c hc => by
    obtain ⟨k1, k2, ⟨a, b, k3⟩, ⟨o1, e1, _, d1⟩, ⟨o2, e2, _, d2⟩⟩ := st
    have hc' : c = o ∨ c = ti ∨ c = to ∨ c = p ∨ c = q := by simpa using hc
    rcases hc' with rfl | rfl | rfl | rfl | rfl
    · exact ⟨_, k1, fun v n => nomatch n⟩
    · exact ⟨_, k2, fun v n => nomatch n⟩
    · exact ⟨_, k3, fun v n => nomatch n⟩
    · exact ⟨o1, e1, fun v n => by rw [d1] at n; cases n⟩
    · exact ⟨o2, e2, fun v n => by rw [d2] at n; cases n⟩
  keep := fun i h h' st k => by
    obtain ⟨k1, k2, ⟨a, b, k3⟩, ⟨o1, e1, r1⟩, ⟨o2, e2, r2⟩⟩ := st
    exact ⟨k o (by simp) _ k1, k ti (by simp) _ k2, ⟨a, b, k to (by simp) _ k3⟩, ⟨o1, k p (by simp) _ e1, r1⟩, ⟨o2, k q (by simp) _ e2, r2⟩⟩
  item := by
    intro X hP hw hK hc i pins s σ H E I hf st hg
    subst hP hw hK
    obtain ⟨k1, k2, ⟨a, b, k3⟩, k4, k5⟩ := st
    obtain ⟨l1, l2⟩ := hg
    have ol : o < s.heap.objs.size := Heap.lt_size k1
    refine py_item (I.ok.hd hc) ap dr_str dr_str k1 k2 k3 k4 k5 l1 l2 fun c d h' tk hcu hdv z' o' s1' s2' hT hsz hk => ?_
    obtain ⟨cc, tc, hcc, rfl⟩ := hcu
    obtain ⟨dd, td, hdd, rfl⟩ := hdv
    refine ⟨_, rfl, wpAny_letOwnedTupleGo_zip (s := { s with heap := h', toks := tk }) z' fun h'' z'' sb => ?_⟩
    have hT2 : h''.get? s.heap.objs.size = some { cls := .type "tuple", data := .seq #[.str ⟨#[cc]⟩ tc, .str ⟨#[dd]⟩ td] } := (sb.2 _ (Nat.ne_of_gt ol)).trans hT
    have new : ObjOk X.prog X.w (upd H s.heap.objs.size (.tup [.str ⟨#[cc]⟩, .str ⟨#[dd]⟩])) h'' s.heap.objs.size (.tup [.str ⟨#[cc]⟩, .str ⟨#[dd]⟩]) :=
      ⟨by show 2 ≤ sizeLine; decide, [.str ⟨#[cc]⟩ tc, .str ⟨#[dd]⟩ td], .cons ⟨tc, rfl⟩ (.cons ⟨td, rfl⟩ .nil), ⟨_, hT2, rfl, _, rfl⟩⟩
    have I1 : Inv X pins σ (upd H s.heap.objs.size (.tup [.str ⟨#[cc]⟩, .str ⟨#[dd]⟩])) { s with heap := h'', toks := tk } :=
      I.turnedNew (t' := tk) (ch := [o, ti, to, p, q]) (fun c ob hb e => (sb.2 c (fun n => hb (by simp [n]))).trans (hk c ob (fun n => hb (by simp [n])) (fun n => hb (by simp [n])) (fun n => hb (by simp [n])) (fun n => hb (by simp [n])) e)) hf (Nat.le_refl _) new
    refine ⟨.ref s.heap.objs.size, _, I1, rfl, ⟨_, cc, dd, rfl, I.hok.fresh (Nat.le_refl _), hcc, hdd, rfl⟩, ⟨z'', ?_, ⟨_, _, (sb.2 _ ap.a2).trans o'⟩, ?_, ?_⟩, fun c hcm => ?_⟩
    · exact (sb.2 _ ap.a1).trans (hk _ _ ap.a1 ap.b1 ap.b2 ap.b3 k2)
    · obtain ⟨ob, e, r⟩ := s1'
      exact ⟨ob, (sb.2 _ ap.a3).trans e, r⟩
    · obtain ⟨ob, e, r⟩ := s2'
      exact ⟨ob, (sb.2 _ ap.a4).trans e, r⟩
    · have lt : c < s.heap.objs.size := by
        have hc' : c = o ∨ c = ti ∨ c = to ∨ c = p ∨ c = q := by simpa using hcm
        rcases hc' with rfl | rfl | rfl | rfl | rfl
        · exact ol
        · exact Heap.lt_size k2
        · exact Heap.lt_size k3
        · obtain ⟨_, e, _⟩ := k4; exact Heap.lt_size e
        · obtain ⟨_, e, _⟩ := k5; exact Heap.lt_size e
      rw [upd_ne (Nat.ne_of_lt lt)]
      exact (hf c hcm).1
  done := by
    intro X hP hw hK hc i pins s σ H E I hf st hg
    subst hP hw hK
    obtain ⟨k1, k2, ⟨a, b, k3⟩, k4, k5⟩ := st
    refine py_end (I.ok.hd hc) ap dr_str dr_str k1 k2 k3 k4 k5 hg fun h' tk hk => ⟨rfl, I.turnedL (t' := tk) (ch := [o, ti, to, p, q]) (fun c ob hb e => ?_) hf⟩
    exact hk c ob (fun n => hb (by simp [n])) (fun n => hb (by simp [n])) (fun n => hb (by simp [n])) (fun n => hb (by simp [n])) e
  self := fun A i s Q E st h => wpAny_pyIter_zip st.1 h
def iZipS (ta : TA) : TI := fun σ H R => ta σ H fun vs H1 => ∃ x y : Str, vs = [.str x, .str y] ∧ R (ItzS x y) H1
theorem pi_zipS {X : Cx} {e e2 : Expr} {ta : TA} {p pos tpos : Pos} {elts : List Expr} {kk : Nat} (hg : Gl X "zip") (hm : X.mg "zip" = none) (ha : PA X [e, e2] ta)
    (h1 : starEach [e, e2] X.env = (false, eval e X.env) :: starEach [e2] X.env := by rfl) (h2 : (backTo pos (starEach [e2] X.env)).any (·.1) = false := by rfl) : PI X (.Tuple elts kk tpos) (.Call (.Name "zip" p) [e, e2] [] pos) (iZipS ta) := by
  refine ⟨fun pins s σ H R I h => ?_⟩
  refine Call_ (ld_blt I hg hm PyProof.Rows.boot_zip (PyProof.Rows.callWith_type1 (thn (ha.run pos pins s σ H _ I h) fun us s1 ⟨vs, H1, I1, r1, x, y, ex, q⟩ => ?_) h1 h2))
  subst ex
  cases r1 with
  | cons r rr =>
    cases rr with
    | cons r' rr =>
      cases rr
      obtain ⟨t, rfl⟩ := r
      obtain ⟨u, rfl⟩ := r'
      refine call_str fun h' k1 k2 k3 k4 k5 hk => wpAny_pyIter_zip k1 ?_
      have I2 : Inv X pins σ H1 { s1 with heap := h' } := I1.kept (t' := s1.toks) hk
      refine ⟨s1.heap.objs.size + 4, [s1.heap.objs.size + 4, s1.heap.objs.size + 2, s1.heap.objs.size + 3, s1.heap.objs.size, s1.heap.objs.size + 1], _, _, H1, rfl, I2, turn_zipS (t := t) (u := u) (ap_new _), ⟨k1, k2, ⟨_, _, k3⟩, k4, k5⟩, fun c hc => ?_, q⟩
      have le : s1.heap.objs.size ≤ c := by
        simp only [List.mem_cons, List.not_mem_nil, or_false] at hc
        rcases hc with e | e | e | e | e <;> subst e <;> first | exact Nat.le_refl _ | exact Nat.le_add_right _ _
      exact I1.fpOk le (I1.hok.fresh le)
/-- a loop over zip of two texts of one length -/
theorem for_zipS {l m : List Nat} {g : TG} {tb : TS} {D : Ends} {σ : L2.St} {H : Hp} (hl : l.length = m.length) (Pv : Nat → L2.St → Hp → Prop) (h0 : Pv 0 σ H)
    (hs : ∀ (i c d : Nat) (T : Addr) (σ : L2.St) (H : Hp), l[i]? = some c → m[i]? = some d → Pv i σ H → H T = none → g (.ref T) σ (upd H T (.tup [.str (SX.S [c]), .str (SX.S [d])])) fun σ2 H2 => tb { D with nx := Pv (i + 1), ct := Pv (i + 1), bk := D.nx } σ2 H2) (hd : ∀ σ H, Pv l.length σ H → D.nx σ H) :
    ∃ W : Nat → Nat → L2.St → Hp → Prop, (∃ m, W 0 m σ H) ∧ ∀ i n σ H, W i n σ H →
      ((ItzS (SX.S l) (SX.S m)).stop i H ∧ D.nx σ H) ∨ ((ItzS (SX.S l) (SX.S m)).go i H ∧ ∃ N : L2.St → Hp → Prop, (∀ σ' H', N σ' H' → ∃ m', m' < n ∧ W (i + 1) m' σ' H') ∧ ∀ v H', (ItzS (SX.S l) (SX.S m)).yld i H v H' → g v σ H' fun σ2 H2 => tb { D with nx := N, ct := N, bk := D.nx } σ2 H2) := by
  refine ⟨fun i n σ H => n = l.length - i ∧ i ≤ l.length ∧ Pv i σ H, ⟨l.length, rfl, Nat.zero_le _, h0⟩, ?_⟩
  rintro i n σ H ⟨rfl, hi, pv⟩
  by_cases lt : i < l.length
  · refine .inr ⟨⟨show i < l.length from lt, show i < m.length by omega⟩, Pv (i + 1), fun σ' H' p' => ⟨l.length - (i + 1), by omega, rfl, lt, p'⟩, fun v H' y => ?_⟩
    obtain ⟨T, c, d, rfl, hT, hc, hd', rfl⟩ := y
    exact hs i c d T σ H (by rw [← hc]; simp [SX.S]) (by rw [← hd']; simp [SX.S]) pv hT
  · have e : i = l.length := by omega
    subst e
    exact .inl ⟨.inl rfl, hd σ H pv⟩
end WZ
namespace WP
open PySem PySem.Spec PyProof.Rows L2 WZ
theorem zipS {ta : TA} {σ : L2.St} {H : Hp} {R : It → Hp → Prop} (h : ta σ H fun vs H1 => ∃ x y : Str, vs = [.str x, .str y] ∧ R (ItzS x y) H1) : iZipS ta σ H R := h
theorem Sm.mut {H H' : Hp} {p : Addr} {xs ys : List V} (e : Sm H H') (h : H p = none) (hp : H' p = some (.lst xs)) : Sm H (upd H' p (.lst ys)) := by
  refine ⟨fun b u hb nt => ?_, fun P hP => ?_⟩
  · rw [upd_ne (ne_of_none hb h)]
    exact e.k b u hb nt
  · obtain ⟨ps, h1, h2⟩ := e.t P hP
    have n : P ≠ p := fun z => by rw [z, hp] at h1; cases h1
    exact ⟨ps, by rw [upd_ne n]; exact h1, h2⟩
/-- a comprehension over zip of two texts of one length -/
theorem lc_zipS {l m : List Nat} {g : TG} {tt : TT} {te : TE} {vs : List Nat} {σ : L2.St} {H1 : Hp} {D : Addr} {Qd : Hp → Prop} (hl : l.length = m.length) (Pv : Nat → Hp → Prop) (h0 : Pv 0 (upd H1 D (.lst [])))
    (hs : ∀ (i c d : Nat) (T : Addr) (H : Hp), l[i]? = some c → m[i]? = some d → Pv i H → H T = none → g (.ref T) (wipe σ vs) (upd H T (.tup [.str (SX.S [c]), .str (SX.S [d])])) fun σ2 H2 => wipe σ2 vs = wipe σ vs ∧ tt σ2 H2 fun b H3 =>
      if b = true then te σ2 H3 fun y H4 => ∃ acc, H4 D = some (.lst acc) ∧ acc.length < sizeLine ∧ Pv (i + 1) (upd H4 D (.lst (acc ++ [y]))) else Pv (i + 1) H3) (hd : ∀ H, Pv l.length H → Qd H) :
    ∃ W : Nat → Nat → Hp → Prop, (∃ m, W 0 m (upd H1 D (.lst []))) ∧ ∀ i n H, W i n H →
      ((ItzS (SX.S l) (SX.S m)).stop i H ∧ Qd H) ∨ ((ItzS (SX.S l) (SX.S m)).go i H ∧ ∃ Nx : Hp → Prop, (∀ H', Nx H' → ∃ m', m' < n ∧ W (i + 1) m' H') ∧ ∀ x H', (ItzS (SX.S l) (SX.S m)).yld i H x H' → g x (wipe σ vs) H' fun σ2 H2 => wipe σ2 vs = wipe σ vs ∧ tt σ2 H2 fun b H3 =>
        if b = true then te σ2 H3 fun y H4 => ∃ acc, H4 D = some (.lst acc) ∧ acc.length < sizeLine ∧ Nx (upd H4 D (.lst (acc ++ [y]))) else Nx H3) := by
  refine ⟨fun i n H => n = l.length - i ∧ i ≤ l.length ∧ Pv i H, ⟨l.length, rfl, Nat.zero_le _, h0⟩, ?_⟩
  rintro i n H ⟨rfl, hi, pv⟩
  by_cases lt : i < l.length
  · refine .inr ⟨⟨show i < l.length from lt, show i < m.length by omega⟩, Pv (i + 1), fun H' p' => ⟨l.length - (i + 1), by omega, rfl, lt, p'⟩, fun v H' y => ?_⟩
    obtain ⟨T, c, d, rfl, hT, hc, hd', rfl⟩ := y
    exact hs i c d T H (by rw [← hc]; simp [SX.S]) (by rw [← hd']; simp [SX.S]) pv hT
  · have e : i = l.length := by omega
    subst e
    exact .inl ⟨.inl rfl, hd H pv⟩
end WP

namespace WP
open PySem PySem.Spec PyProof.Rows L2
/-! ### lists of counts and of truths -/
abbrev iL (l : List Nat) : List V := l.map fun (w : Nat) => V.int (w : Int)
abbrev bL (l : List Bool) : List V := l.map V.bl
section
variable {K : PySem.W.Frag} {H : Hp} {p : Addr} {Q : VK} {l : List Nat} {bs : List Bool} {j : Nat}
theorem at_iL (h : j < l.length) : atI (iL l) (j : Int) = some (.int ((l.getD j 0 : Nat) : Int)) := atI_nat (by rw [List.getElem?_map, List.getElem?_eq_getElem h, List.getD_eq_getElem?_getD, List.getElem?_eq_getElem h]; rfl)
theorem at_bL (h : j < bs.length) : atI (bL bs) (j : Int) = some (.bl (bs.getD j false)) := atI_nat (by rw [List.getElem?_map, List.getElem?_eq_getElem h, List.getD_eq_getElem?_getD, List.getElem?_eq_getElem h]; rfl)
theorem at_rev {v : Nat} {q : List Nat} : atI (iL (v :: q).reverse) (-1) = some (.int (v : Int)) := by
  rw [List.reverse_cons, show iL (q.reverse ++ [v]) = iL q.reverse ++ [.int (v : Int)] from List.map_append]
  exact atI_last _ _
theorem set_iL {v : Nat} : (iL l).set j (.int (v : Int)) = iL (l.set j v) := by unfold iL; rw [List.map_set]
theorem set_bL {b : Bool} : (bL bs).set j (.bl b) = bL (bs.set j b) := by unfold bL; rw [List.map_set]
theorem app_iL {v : Nat} : iL l ++ [.int (v : Int)] = iL (l ++ [v]) := by unfold iL; rw [List.map_append]; rfl
theorem app_rev {v : Nat} {q : List Nat} : iL q.reverse ++ [.int (v : Int)] = iL (v :: q).reverse := by rw [List.reverse_cons, app_iL]
theorem setN {xs : List V} {v : V} {R : Hp → Prop} (hp : H p = some (.lst xs)) (hj : j < xs.length) (q : R (upd H p (.lst (xs.set j v)))) : rSetL (.ref p) (.int (j : Int)) v H R := setL hp (Evl.ixN_nat hj) q
theorem popRev {v : Nat} {r : List Nat} (hp : H p = some (.lst (iL (v :: r).reverse))) (q : Q (.int (v : Int)) (upd H p (.lst (iL r.reverse)))) : rPop (.ref p) [] H Q := by
  refine ⟨p, _, .int (v : Int), rfl, rfl, hp, ?_, ?_⟩
  · unfold iL
    rw [List.reverse_cons, List.map_append, List.length_append]
    show (_ ++ [V.int (v : Int)])[_ + 1 - 1]? = _
    rw [Nat.add_sub_cancel, List.getElem?_append_right (Nat.le_refl _), Nat.sub_self]; rfl
  · unfold iL at q ⊢
    rw [List.reverse_cons, List.map_append]
    show Q _ (upd H p (.lst ((_ ++ [V.int (v : Int)]).dropLast)))
    rw [List.dropLast_concat]; exact q
theorem tr_rev {v : Nat} {q : List Nat} : (!(iL (v :: q).reverse).isEmpty) = true := by
  unfold iL
  rw [List.reverse_cons, List.map_append]
  cases List.map (fun (w : Nat) => V.int (w : Int)) q.reverse <;> rfl
theorem trL {xs : List V} (h : SqL K H p xs) : TruV K (.ref p) H (!xs.isEmpty) := .inl ⟨xs, h, rfl⟩
end
section
variable {K : PySem.W.Frag} {H : Hp} {p : Addr} {Q : VK} {l : List Nat} {v : Nat}
theorem inV_N : ∀ {l : List Nat}, inV (.int (v : Int)) (iL l) = decide (v ∈ l)
  | [] => rfl
  | a :: l => by
    show (eqV (.int (a : Int)) (.int (v : Int)) || inV (.int (v : Int)) (iL l)) = _
    rw [inV_N]
    show (((a : Int) == (v : Int)) || _) = _
    by_cases h : a = v
    · subst h; simp
    · rw [show ((a : Int) == (v : Int)) = false from by rw [beq_eq_false_iff_ne]; omega, Bool.false_or]
      congr 1
      exact propext ⟨fun z => List.mem_cons_of_mem _ z, fun z => by
        rcases List.mem_cons.mp z with z | z
        · exact absurd z.symm h
        · exact z⟩
theorem flat_N : ∀ (l : List Nat), (iL l).all flatV = true
  | [] => rfl
  | a :: l => flat_N l
theorem inNL (h : SqL K H p (iL l)) (q : Q (.bl (decide (v ∈ l))) H) : rIn K false (.int (v : Int)) (.ref p) H Q := ⟨p, _, rfl, .inl h, rfl, flat_N l, by rw [inV_N]; exact q⟩
theorem inNT (h : SqT K H p (iL l)) (q : Q (.bl (decide (v ∈ l))) H) : rIn K false (.int (v : Int)) (.ref p) H Q := ⟨p, _, rfl, .inr h, rfl, flat_N l, by rw [inV_N]; exact q⟩
theorem notInNL (h : SqL K H p (iL l)) (q : Q (.bl (!decide (v ∈ l))) H) : rIn K true (.int (v : Int)) (.ref p) H Q := ⟨p, _, rfl, .inl h, rfl, flat_N l, by rw [inV_N]; exact q⟩
theorem notInNT (h : SqT K H p (iL l)) (q : Q (.bl (!decide (v ∈ l))) H) : rIn K true (.int (v : Int)) (.ref p) H Q := ⟨p, _, rfl, .inr h, rfl, flat_N l, by rw [inV_N]; exact q⟩
/-- sorted(a list of counts) -/
theorem sortedN (h : SqL K H p (iL l)) (hz : l.length < 64) (q : ∀ (l' : List Nat) (a : Addr), l'.Perm l → H a = none → Q (.ref a) (upd H a (.lst (iL l')))) : rSorted K [.ref p] H Q := by
  refine ⟨p, l.map fun (w : Nat) => (w : Int), rfl, by rw [List.map_map]; exact h, by rw [List.length_map]; exact hz, fun ns' a hp _ ha => ?_⟩
  have e2 : ns'.map V.int = iL (ns'.map Int.toNat) := by
    unfold iL
    rw [List.map_map]
    refine List.map_congr_left fun x hx => ?_
    obtain ⟨w, _, rfl⟩ := List.mem_map.mp ((hp.mem_iff).mp hx)
    rfl
  rw [e2]
  refine q _ a ?_ ha
  have := hp.map Int.toNat
  rw [List.map_map] at this
  rw [show l.map (Int.toNat ∘ fun (w : Nat) => (w : Int)) = l from by simp [Function.comp_def]] at this
  exact this
end
section
variable {σ : L2.St} {H : Hp} {D : Ends} {Q : VK} {td ty tv : TE} {d : Addr} {kvs : List (Key × V)} {i : Int} {v : V}
theorem dnewK (q : ∀ p, H p = none → Q (.ref p) (upd H p (.dK []))) : tDNewK σ H Q := q
theorem din (h : ty σ H fun y H1 => td σ H1 fun x H2 => ∃ a o, x = .ref a ∧ DGet H2 a y o ∧ Q (.bl o.isSome) H2) : tDIn ty td σ H Q := h
theorem dnotin (h : ty σ H fun y H1 => td σ H1 fun x H2 => ∃ a o, x = .ref a ∧ DGet H2 a y o ∧ Q (.bl (!o.isSome)) H2) : tDNotIn ty td σ H Q := h
theorem dput (h : tv σ H fun v H1 => td σ H1 fun x H2 => ty σ H2 fun y H3 => ∃ a H4, x = .ref a ∧ DPut H3 a y v H4 ∧ D.nx σ H4) : sDPut td ty tv D σ H := h
theorem inK (hd : H d = some (.dK kvs)) (q : Q (.bl (valV kvs (Sum.inl i)).isSome) H) : ∃ a o, V.ref d = .ref a ∧ DGet H a (.int i) o ∧ Q (.bl o.isSome) H := ⟨d, _, rfl, DGet.k (k := Sum.inl i) hd, q⟩
theorem notInK (hd : H d = some (.dK kvs)) (q : Q (.bl (!(valV kvs (Sum.inl i)).isSome)) H) : ∃ a o, V.ref d = .ref a ∧ DGet H a (.int i) o ∧ Q (.bl (!o.isSome)) H := ⟨d, _, rfl, DGet.k (k := Sum.inl i) hd, q⟩
theorem getK (hd : H d = some (.dK kvs)) (e : valV kvs (Sum.inl i) = some v) (q : Q v H) : ∃ a v, V.ref d = .ref a ∧ DGet H a (.int i) (some v) ∧ Q v H := ⟨d, v, rfl, e ▸ DGet.k (k := Sum.inl i) hd, q⟩
theorem gotK (hd : H d = some (.dK kvs)) (e : valV kvs (Sum.inl i) = some v) : DGet H d (.int i) (some v) := e ▸ DGet.k (k := Sum.inl i) hd
theorem putKI {R : Hp → Prop} (hd : H d = some (.dK kvs)) (hl : kvs.length < sizeLine) (q : R (upd H d (.dK (putK kvs (Sum.inl i) v)))) : ∃ a H4, V.ref d = .ref a ∧ DPut H a (.int i) v H4 ∧ R H4 := ⟨d, _, rfl, DPut.k (k := Sum.inl i) hd hl, q⟩
end
theorem ix_tupK {X : Cx} {K : PySem.W.Frag} (h : X.K = K) : IxR X (rIxT K) := by subst h; exact ix_tup
theorem ix_listK {X : Cx} {K : PySem.W.Frag} (h : X.K = K) : IxR X (rIxL K) := by subst h; exact ix_list
theorem tupRev {K : PySem.W.Frag} {te : TE} {σ : L2.St} {H : Hp} {Q : VK} (h : te σ H fun v H1 => ∃ (a : Addr) (xs : List V), v = .ref a ∧ SqL K H1 a xs ∧ ∀ q, H1 q = none → Q (.ref q) (upd H1 q (.tup xs.reverse))) : RT.tTupRev K te σ H Q := h
theorem rev {K : PySem.W.Frag} {ta : TA} {σ : L2.St} {H : Hp} {R : It → Hp → Prop} (h : ta σ H fun vs H1 => ∃ (a : Addr) (xs : List V), vs = [.ref a] ∧ SqL K H1 a xs ∧ R (Itv K a xs.length) H1) : iRev K ta σ H R := h
end WP

namespace WP
open PySem PySem.Spec PyProof.Rows L2
/-! ### own classes -/
structure ClsOk (K : PySem.W.Frag) (mg : MG) (nm : Str) (at' : List Str) : Prop where
  m : mg nm = some (.ref (ca mg nm))
  c : Cls K (ca mg nm)
  n : ∀ f ∈ at', NoAttr K (ca mg nm) f
theorem ClsOk.mk' {K : PySem.W.Frag} {mg : MG} {nm : Str} {at' : List Str} {C : Addr} (h : mg nm = some (.ref C)) (c : Cls K C) (n : ∀ f ∈ at', NoAttr K C f) : ClsOk K mg nm at' := by
  have e := ca_of h
  exact ⟨by rw [e]; exact h, by rw [e]; exact c, by rw [e]; exact n⟩
/-- a method that may be called -/
structure CalleeM (P : Program) (w : World) (K : PySem.W.Frag) (mg : MG) (base : Heap) (CX : CXT) (lv : Nat) (nm m : Str) (ps : List Str) (sp : Sp) : Prop where
  ex : ∃ (f : Addr) (fd : FuncData), FnOk P w K mg base CX lv f fd ps sp ∧ Meth K (ca mg nm) m f ∧ Binds K fd ps []
theorem CalleeM.mk' {P : Program} {w : World} {K : PySem.W.Frag} {mg : MG} {base : Heap} {CX : CXT} {lv : Nat} {nm m : Str} {ps : List Str} {sp : Sp} {C f : Addr} {fd : FuncData}
    (h : FnOk P w K mg base CX lv f fd ps sp) (hc : mg nm = some (.ref C)) (hm : Meth K C m f) (b : Binds K fd ps []) : CalleeM P w K mg base CX lv nm m ps sp := ⟨⟨f, fd, h, by rw [ca_of hc]; exact hm, b⟩⟩
/-- a class that may be made -/
structure CalleeI (P : Program) (w : World) (K : PySem.W.Frag) (mg : MG) (base : Heap) (CX : CXT) (lv : Nat) (nm : Str) (ps : List Str) (sp : Sp) : Prop where
  ex : ∃ (f : Addr) (fd : FuncData), FnOk P w K mg base CX lv f fd ps sp ∧ Mk K (ca mg nm) f ∧ Binds K fd ps []
theorem CalleeI.mk' {P : Program} {w : World} {K : PySem.W.Frag} {mg : MG} {base : Heap} {CX : CXT} {lv : Nat} {nm : Str} {ps : List Str} {sp : Sp} {C f : Addr} {fd : FuncData}
    (h : FnOk P w K mg base CX lv f fd ps sp) (hc : mg nm = some (.ref C)) (hm : Mk K C f) (b : Binds K fd ps []) : CalleeI P w K mg base CX lv nm ps sp := ⟨⟨f, fd, h, by rw [ca_of hc]; exact hm, b⟩⟩
section
variable {K : PySem.W.Frag} {σ : L2.St} {H : Hp} {Q : VK} {ta tv : TE} {t : TA} {f m : Str} {p C dx : Addr} {fs : List (Str × V)} {v : V} {D : Ends} {sp : Sp} {dvs : List V} {E : XK} {mg : MG} {nm : Str} {at' : List Str}
/-- steps -/
theorem fld (h : ta σ H fun x H1 => ∃ a C dx fs v, x = .ref a ∧ H1 a = some (.ins C dx fs) ∧ Cls K C ∧ NoAttr K C f ∧ fs.lookup f = some v ∧ Q v H1) : tFld K ta f σ H Q := h
theorem fldA (k : ClsOk K mg nm at') (hp : H p = some (.ins (ca mg nm) dx fs)) (hl : fs.lookup f = some v) (q : Q v H) (hm : f ∈ at' := by decide +kernel) :
    ∃ a C dx fs v, V.ref p = .ref a ∧ H a = some (.ins C dx fs) ∧ Cls K C ∧ NoAttr K C f ∧ fs.lookup f = some v ∧ Q v H := ⟨p, _, dx, fs, v, rfl, hp, k.c, k.n f hm, hl, q⟩
theorem sfld (h : tv σ H fun y H1 => ta σ H1 fun x H2 => ∃ a C dx fs, x = .ref a ∧ H2 a = some (.ins C dx fs) ∧ Cls K C ∧ NoAttr K C f ∧ fs.length < 1000 ∧ D.nx σ (upd H2 a (.ins C dx (putF f y fs)))) : sFld K ta tv f D σ H := h
theorem sfldA {R : Hp → Prop} (k : ClsOk K mg nm at') (hp : H p = some (.ins (ca mg nm) dx fs)) (hl : fs.length < 1000) (q : R (upd H p (.ins (ca mg nm) dx (putF f v fs)))) (hm : f ∈ at' := by decide +kernel) :
    ∃ a C dx fs, V.ref p = .ref a ∧ H a = some (.ins C dx fs) ∧ Cls K C ∧ NoAttr K C f ∧ fs.length < 1000 ∧ R (upd H a (.ins C dx (putF f v fs))) := ⟨p, _, dx, fs, rfl, hp, k.c, k.n f hm, hl, q⟩
theorem meth (h : ta σ H fun x H1 => ∃ a dx fs, x = .ref a ∧ H1 a = some (.ins C dx fs) ∧ fs.lookup m = none ∧ t σ H1 fun vs H2 => sp (x :: (vs ++ dvs)) H2 Q E) : tMeth C m sp dvs E ta t σ H Q := h
theorem methA {R : Hp → Prop} (hp : H p = some (.ins C dx fs)) (hl : fs.lookup m = none) (q : R H) : ∃ a dx fs, V.ref p = .ref a ∧ H a = some (.ins C dx fs) ∧ fs.lookup m = none ∧ R H := ⟨p, dx, fs, rfl, hp, hl, q⟩
theorem make (h : t σ H fun vs H1 => ∀ x dx, H1 x = none → H1 dx = none → dx ≠ x → sp (.ref x :: (vs ++ dvs)) (upd (upd H1 dx (.own x)) x (.ins C dx [])) (fun v H2 => v = .non ∧ Q (.ref x) H2) E) : tMake C sp dvs E t σ H Q := h
end
theorem same_made {H : Hp} {x dx C : Addr} (nx : H x = none) (nd : H dx = none) : Same H (upd (upd H dx (.own x)) x (.ins C dx [])) := fun b o e => by
  rw [upd_ne (ne_of_none e nx), upd_ne (ne_of_none e nd)]
  exact e
/-! ### list of a text -/
def rListS : List V → Hp → VK → Prop := fun xs H Q => ∃ l : List Nat, xs = [.str (SX.S l)] ∧ l.length ≤ sizeLine ∧ ∀ p, H p = none → Q (.ref p) (upd H p (.lst ((l.map fun c => SX.S [c]).map V.str)))
theorem signs_vals {l : List Nat} {acc : Array Value} (h : ItemsOf (SignAt (SX.S l)) acc (SX.S l).cps.size) : Vals ((l.map fun c => SX.S [c]).map V.str) acc.toList := by
  obtain ⟨h1, h2⟩ := h
  have hs : (SX.S l).cps.size = l.length := by simp [SX.S]
  rw [hs] at h1
  have g : ∀ (xs : List Nat) (us : List Value), xs.length = us.length → (∀ (j : Nat) (u : Value), us[j]? = some u → ∃ (c : Nat) (t : Tok), xs[j]? = some c ∧ u = .str ⟨#[c]⟩ t) → Vals ((xs.map fun c => SX.S [c]).map V.str) us := by
    intro xs
    induction xs with
    | nil =>
      intro us hl _
      have : us = [] := List.length_eq_zero_iff.mp hl.symm
      subst this
      exact .nil
    | cons x xs ih =>
      intro us hl hu
      match us, hl, hu with
      | u :: us, hl, hu =>
        obtain ⟨c, t, hc, rfl⟩ := hu 0 u rfl
        cases hc
        exact .cons ⟨t, rfl⟩ (ih us (by simpa using hl) fun j u' hj => hu (j + 1) u' hj)
  refine g l acc.toList (h1.symm.trans Array.length_toList.symm) fun j u hj => ?_
  rw [Array.getElem?_toList] at hj
  obtain ⟨c, t, hc, e⟩ := h2 j u hj
  refine ⟨c, t, ?_, e⟩
  rw [← hc]; simp [SX.S]
theorem c_listS {X : Cx} (hc : X.calm = true) : CallR X (.type "list") rListS := by
  intro pins s σ H xs us Q I r h
  obtain ⟨l, rfl, hl, q⟩ := h
  obtain ⟨u, rfl, rx⟩ := vals1 r
  obtain ⟨t, rfl⟩ := rx
  have hz : (SX.S l).cps.size ≤ sizeLine := by
    have : (SX.S l).cps.size = l.length := by simp [SX.S]
    omega
  refine call_list_str (I.ok.hd hc) (SX.S l) t (fun h' tk acc' c' kp e hit => ?_) hz
  refine ⟨.ref s.heap.objs.size, _, I.laid (t' := tk) kp (Nat.le_refl _) (show ObjOk X.prog X.w _ h' _ (.lst ((l.map fun c => SX.S [c]).map V.str)) from ⟨?_, acc'.toList, c', signs_vals hit, ?_⟩), rfl, q _ (I.hok.fresh (Nat.le_refl _))⟩
  · rw [List.length_map, List.length_map]; exact hl
  · exact e
theorem listS {l : List Nat} {H : Hp} {Q : VK} (hl : l.length ≤ sizeLine) (q : ∀ p, H p = none → Q (.ref p) (upd H p (.lst ((l.map fun c => SX.S [c]).map V.str)))) : rListS [.str (SX.S l)] H Q := ⟨l, rfl, hl, q⟩
/-! ### xs[a:b] = ys -/
def gSl (to : TE) (tl th : TO) : TG := fun v σ H QS => to σ H fun o H1 => tl σ H1 fun a H2 => th σ H2 fun c H3 => ∃ (p b : Addr) (xs ys : List V) (i j : Int), o = .ref p ∧ a = some i ∧ c = some j ∧ v = .ref b ∧ H3 p = some (.lst xs) ∧ H3 b = some (.lst ys) ∧ p ≠ b ∧ 0 ≤ i ∧ i ≤ j ∧ j ≤ xs.length ∧ xs.length + ys.length ≤ sizeLine ∧
  QS σ (upd H3 p (.lst (xs.take i.toNat ++ ys ++ xs.drop j.toNat)))
theorem pg_sl {X : Cx} {o : Expr} {lo hi : Option Expr} {p2 pos : Pos} {to : TE} {tl th : TO} (ho : PE X o to) (hl : PO X lo tl) (hu : PO X hi th)
    (ha : ∀ v, assign (.Subscript o (.Slice lo hi none p2) pos) X.env v = (do
      let q ← holding [v] (eval o X.env)
      let z ← holding [v, q] (eval (.Slice lo hi none p2) X.env)
      standAt pos
      holding [v, q, z] (setItem q z v)
      release [z, v, q] []) := by intro _; rfl) : PG X (.Subscript o (.Slice lo hi none p2) pos) (gSl to tl th) := by
  refine ⟨fun pins s σ H v u Q I r h => ?_⟩
  rw [ha]
  refine wpAny_bind (wpAny_holding (thn (ho.run pins s σ H _ I h) fun ov s1 ⟨x, H1, I1, r1, q1⟩ => ?_))
  refine wpAny_bind (wpAny_holding (wpAny_Slice (thn (hl.run pins s1 σ H1 _ I1 q1) fun vl s2 ⟨l, H2, I2, pl, q2⟩ => thn (hu.run pins s2 σ H2 _ I2 q2) fun vu s3 ⟨w, H3, I3, pu, q3⟩ => ?_)))
  rw [evalPart_none]
  refine wpAny_pure ?_
  obtain ⟨p, b, xs, ys, i, j, e1, e2, e3, e4, h1, h2, n, b0, b1, b2, hz, q⟩ := q3
  subst e1 e2 e3 e4
  have I4 : Inv X pins σ H3 { s3 with heap := s3.heap.push { cls := .type "slice", data := .fields #[vl, vu, .none] } } := I3.kept (t' := s3.toks) fun _ _ e => Heap.get?_push_of_some _ e
  cases r1
  cases r
  have ri : RelV (.int i) vl := by cases pl; exact ⟨_, rfl⟩
  have rj : RelV (.int j) vu := by cases pu; exact ⟨_, rfl⟩
  refine wpAny_bind (wpAny_standAt (wpAny_bind (wpAny_holding (set_slice I4 h1 h2 n (Heap.IsSliceOf.new ..) ri rj b0 b1 b2 hz fun s' I5 => ?_))))
  exact wpAny_release ⟨σ, _, I5, q⟩
theorem gsl {to : TE} {tl th : TO} {v : V} {σ : L2.St} {H : Hp} {QS : L2.St → Hp → Prop} (h : to σ H fun o H1 => tl σ H1 fun a H2 => th σ H2 fun c H3 => ∃ (p b : Addr) (xs ys : List V) (i j : Int), o = .ref p ∧ a = some i ∧ c = some j ∧ v = .ref b ∧ H3 p = some (.lst xs) ∧ H3 b = some (.lst ys) ∧ p ≠ b ∧ 0 ≤ i ∧ i ≤ j ∧ j ≤ xs.length ∧ xs.length + ys.length ≤ sizeLine ∧
  QS σ (upd H3 p (.lst (xs.take i.toNat ++ ys ++ xs.drop j.toNat)))) : gSl to tl th v σ H QS := h
/-- a list's slice -/
theorem slL {K : PySem.W.Frag} {p : Addr} {xs : List V} {lo hi : Option Int} {H : Hp} {Q : VK} (h : SqL K H p xs) (q : ∀ a, H a = none → Q (.ref a) (upd H a (.lst (cutV xs lo hi)))) : rSlL K (.ref p) lo hi H Q := ⟨p, xs, rfl, h, q⟩
theorem cut_nat {xs : List V} {i j : Nat} (h : i ≤ j) (hj : j ≤ xs.length) : cutV xs (some (i : Int)) (some (j : Int)) = (xs.drop i).take (j - i) := by
  have e1 : HT.sIx xs.length 0 (some (i : Int)) = i := by
    show (if (i : Int) < 0 then ((i : Int) + (xs.length : Int)).toNat else min (i : Int).toNat xs.length) = i
    rw [if_neg (by omega)]; omega
  have e2 : HT.sIx xs.length xs.length (some (j : Int)) = j := by
    show (if (j : Int) < 0 then ((j : Int) + (xs.length : Int)).toNat else min (j : Int).toNat xs.length) = j
    rw [if_neg (by omega)]; omega
  unfold cutV
  rw [e1, e2]
/-- all(xs) -/
theorem allL {K : PySem.W.Frag} {p : Addr} {bs : List Bool} {H : Hp} {Q : VK} (h : SqL K H p (bs.map V.bl)) (q : Q (.bl (bs.all _root_.id)) H) : rAll K [.ref p] H Q := ⟨p, bs, rfl, h, q⟩
theorem lookS {f : Str} {v : V} : List.lookup f [(f, v)] = some v := by
  show (match f == f with | true => some v | false => _) = some v
  rw [beq_self_eq_true]
section
variable {K : PySem.W.Frag} {σ : L2.St} {H : Hp} {Q : VK} {ta : TE} {f m : Str} {p dx C : Addr} {fs : List (Str × V)} {v : V} {mg : MG} {nm : Str} {at' : List Str} {i : Nat} {sp : Sp} {dvs : List V} {E : XK} {t : TA}
theorem fldV (k : ClsOk K mg nm at') (hv : σ[i]? = some (some (.ref p))) (hp : H p = some (.ins (ca mg nm) dx fs)) (hl : fs.lookup f = some v) (hm : f ∈ at') (q : Q v H) : tFld K (tVar i) f σ H Q := ⟨.ref p, hv, p, _, dx, fs, v, rfl, hp, k.c, k.n f hm, hl, q⟩
theorem fldG (k : ClsOk K mg nm at') (hm : f ∈ at') (q : ta σ H fun x H1 => ∃ p dx fs v, x = .ref p ∧ H1 p = some (.ins (ca mg nm) dx fs) ∧ fs.lookup f = some v ∧ Q v H1) (mono : ∀ (R R' : VK), (∀ x H, R x H → R' x H) → ta σ H R → ta σ H R') : tFld K ta f σ H Q :=
  mono _ _ (fun x H1 ⟨p, dx, fs, v, e, hp, hl, q⟩ => ⟨p, _, dx, fs, v, e, hp, k.c, k.n f hm, hl, q⟩) q
theorem methV (hv : σ[i]? = some (some (.ref p))) (hp : H p = some (.ins C dx fs)) (hl : fs.lookup m = none) (q : t σ H fun vs H2 => sp (.ref p :: (vs ++ dvs)) H2 Q E) : tMeth C m sp dvs E (tVar i) t σ H Q := ⟨.ref p, hv, p, dx, fs, rfl, hp, hl, q⟩
end
end WP

namespace MD
open WP
/-- the least scale: zeros at the end are dropped -/
def nrm : Int → Nat → Int × Nat
  | u, 0 => (u, 0)
  | u, s + 1 => if u % 10 = 0 then nrm (u / 10) s else (u, s + 1)
theorem nrm_le : ∀ (s : Nat) (u : Int), (nrm u s).2 ≤ s
  | 0, u => Nat.le_refl _
  | s + 1, u => by
    unfold nrm
    split
    · exact Nat.le_succ_of_le (nrm_le s _)
    · exact Nat.le_refl _
theorem nrm_val : ∀ (s : Nat) (u : Int), (nrm u s).1 * 10 ^ (s - (nrm u s).2) = u
  | 0, u => by unfold nrm; simp
  | s + 1, u => by
    unfold nrm
    split
    · rename_i h
      have ih := nrm_val s (u / 10)
      have l := nrm_le s (u / 10)
      have e : s + 1 - (nrm (u / 10) s).2 = (s - (nrm (u / 10) s).2) + 1 := by omega
      rw [e, Int.pow_succ, ← Int.mul_assoc, ih]
      omega
    · simp
/-- a decimal: the scale is the least one -/
def Dec (u : Int) (s : Nat) : Prop := s = 0 ∨ u % 10 ≠ 0
theorem nrm_dec : ∀ (s : Nat) (u : Int), Dec (nrm u s).1 (nrm u s).2
  | 0, u => .inl rfl
  | s + 1, u => by
    unfold nrm
    split
    · exact nrm_dec s _
    · rename_i h; exact .inr h
theorem nrm_self {u : Int} {s : Nat} (h : Dec u s) : nrm u s = (u, s) := by
  cases s with
  | zero => rfl
  | succ s =>
    unfold nrm
    rcases h with h | h
    · cases h
    · rw [if_neg h]
theorem nrm_up : ∀ (m s : Nat) (u : Int), nrm (u * 10 ^ m) (s + m) = nrm u s
  | 0, s, u => by simp
  | m + 1, s, u => by
    have e : u * 10 ^ (m + 1) = u * 10 ^ m * 10 := by rw [Int.pow_succ, Int.mul_assoc]
    rw [← Nat.add_assoc, e]
    show (if (u * 10 ^ m * 10) % 10 = 0 then nrm (u * 10 ^ m * 10 / 10) (s + m) else _) = _
    rw [if_pos (Int.mul_emod_left _ _), Int.mul_ediv_cancel _ (by decide)]
    exact nrm_up m s u
theorem nrm_abs : ∀ (s : Nat) (u : Int), (nrm u s).1.natAbs ≤ u.natAbs
  | 0, u => Nat.le_refl _
  | s + 1, u => by
    unfold nrm
    split
    · have := nrm_abs s (u / 10)
      omega
    · exact Nat.le_refl _
theorem nrm_bt {u : Int} {s a : Nat} (h : Bt u a) : Bt (nrm u s).1 a := h.le (nrm_abs s u)
end MD
namespace MD
theorem nrm_eq (u : Int) (s : Nat) : (nrm u s).1 * 10 ^ s = u * 10 ^ (nrm u s).2 := by
  have h := nrm_val s u
  have l := nrm_le s u
  have e : (10 : Int) ^ s = 10 ^ (s - (nrm u s).2) * 10 ^ (nrm u s).2 := by rw [← Int.pow_add]; congr 1; omega
  rw [e, ← Int.mul_assoc, h]
end MD

namespace MP
open PySem PySem.Spec PyProof.Rows L2
open SX (S)
/-- a picture with digits: a number picture or an edited one -/
inductive Pic where
  | num (sg : Bool) (w f : Nat)
  | ed (body : List Nat) (w f : Nat) (sign : List Nat)
def Pic.wh : Pic → Nat
  | .num _ w _ => w
  | .ed _ w _ _ => w
def Pic.fr : Pic → Nat
  | .num _ _ f => f
  | .ed _ _ f _ => f
def Pic.n (p : Pic) : Nat := p.wh + p.fr
def Pic.sgd : Pic → Bool
  | .num sg _ _ => sg
  | .ed _ _ _ s => !decide (s = [])
/-- the sign as the text is written -/
def Pic.sgn : Pic → List Nat
  | .num sg _ _ => if sg then [43] else []
  | .ed _ _ _ s => s
def Pic.vs : Pic → List V
  | .num sg w f => [.str (S [110, 117, 109, 98, 101, 114]), .bl sg, .int (w : Int), .int (f : Int)]
  | .ed b w f s => [.str (S [101, 100, 105, 116, 101, 100]), .str (S b), .int (w : Int), .int (f : Int), .str (S s)]
/-- z * 9 -/
def isD (c : Nat) : Bool := c == 122 || c == 42 || c == 57
/-- , b 0 / -/
def isI (c : Nat) : Bool := c == 44 || c == 98 || c == 48 || c == 47
def okM (c : Nat) : Bool := isD c || c == 46 || isI c
def signs : List (List Nat) := [[], [45], [43], [46, 45], [46, 43], [99, 114], [100, 98]]
structure Body (b : List Nat) (n : Nat) : Prop where
  hd : ∃ c r, b = c :: r ∧ isD c = true
  ok : ∀ c ∈ b, okM c = true
  ct : (b.filter isD).length = n
  ln : b.length ≤ 60
def Pic.Ok : Pic → Prop
  | .num _ w f => 1 ≤ w + f ∧ w + f ≤ 18
  | .ed b w f s => 1 ≤ w + f ∧ w + f ≤ 18 ∧ Body b (w + f) ∧ s ∈ signs
theorem Pic.Ok.n1 {p : Pic} (h : p.Ok) : 1 ≤ p.n ∧ p.n ≤ 18 := by
  cases p with
  | num sg w f => exact h
  | ed b w f s => exact ⟨h.1, h.2.1⟩
/-- what an inserted mark becomes -/
def insM (c : Nat) : Nat := if c = 98 then 32 else c
def bodyF (fill : Nat) : Bool → List Nat → List Nat → List Nat
  | _, [], _ => []
  | hid, m :: ms, fs =>
    if isD m then
      (match fs with
      | [] => []
      | c :: cs => let h := hid && (!(m == 57)) && (c == 48); (if h then fill else c) :: bodyF fill h ms cs)
    else if m = 46 then 46 :: bodyF fill false ms fs
    else (if hid then fill else insM m) :: bodyF fill hid ms fs
def hd (b : List Nat) : Nat := b.headD 0
def fillOf (b : List Nat) : Nat := if hd b = 42 then 42 else 32
def bodyText (b fs : List Nat) : List Nat := bodyF (fillOf b) (!(hd b == 57)) b fs
def signText (s : List Nat) (neg : Bool) : List Nat :=
  if s = [99, 114] then (if neg then [67, 82] else [32, 32]) else if s = [100, 98] then (if neg then [68, 66] else [32, 32])
  else if s = [] then [] else if neg then [45] else if s = [43] ∨ s = [46, 43] then [43] else [32]
/-- the text of a field -/
def writ : Pic → Int → List Nat
  | .num sg w f, u => signText (if sg then [43] else []) (decide (u < 0)) ++ WP.padL (w + f) u.natAbs
  | .ed b w f s, u => if s = [45] ∨ s = [43] then signText s (decide (u < 0)) ++ bodyText b (WP.padL (w + f) u.natAbs) else bodyText b (WP.padL (w + f) u.natAbs) ++ signText s (decide (u < 0))
def Suits (p : Pic) (u : Int) : Prop := u.natAbs < 10 ^ p.n ∧ (0 ≤ u ∨ p.sgd = true)
instance {p : Pic} {u : Int} : Decidable (Suits p u) := by unfold Suits; infer_instance
end MP
namespace MP
theorem drop_some {l : List Nat} {i c : Nat} (h : l[i]? = some c) : l.drop i = c :: l.drop (i + 1) := by
  obtain ⟨hi, e⟩ := List.getElem?_eq_some_iff.mp h
  rw [List.drop_eq_getElem_cons hi, e]
theorem memD (c : Nat) : decide ([c] ∈ [[122], [42], [57]]) = isD c := by
  unfold isD
  by_cases h1 : c = 122
  · subst h1; rfl
  by_cases h2 : c = 42
  · subst h2; rfl
  by_cases h3 : c = 57
  · subst h3; rfl
  rw [decide_eq_false (by simp [h1, h2, h3])]
  simp [h1, h2, h3]
theorem memH {c : Nat} (h : isD c = true) : decide ([c] ∈ [[122], [42]]) = !(c == 57) := by
  have h' : c = 122 ∨ c = 42 ∨ c = 57 := by simpa [isD, or_assoc] using h
  rcases h' with rfl | rfl | rfl <;> rfl
theorem bodyF_D {fill m : Nat} {hid : Bool} {ms cs : List Nat} {c : Nat} (h : isD m = true) : bodyF fill hid (m :: ms) (c :: cs) = (if (hid && (!(m == 57)) && (c == 48)) = true then fill else c) :: bodyF fill (hid && (!(m == 57)) && (c == 48)) ms cs := by
  rw [bodyF, if_pos h]
theorem bodyF_P {fill : Nat} {hid : Bool} {ms fs : List Nat} : bodyF fill hid (46 :: ms) fs = 46 :: bodyF fill false ms fs := by
  conv => lhs; unfold bodyF
  show (if isD 46 = true then _ else if (46 : Nat) = 46 then _ else _) = _
  rw [if_neg (by decide), if_pos rfl]
theorem bodyF_I {fill m : Nat} {hid : Bool} {ms fs : List Nat} (h : isD m = false) (h2 : m ≠ 46) : bodyF fill hid (m :: ms) fs = (if hid = true then fill else insM m) :: bodyF fill hid ms fs := by
  conv => lhs; unfold bodyF
  show (if isD m = true then _ else if m = 46 then _ else _) = _
  rw [if_neg (by rw [h]; decide), if_neg h2]
end MP
namespace MP
def bodies : List (List Nat) := [[122, 122, 57], [122, 122, 122], [122, 57], [57], [42, 42, 42], [42, 42, 57], [122, 122, 44, 122, 122, 57], [42, 42, 44, 42, 42, 42], [57, 57, 47, 57, 57], [122, 44, 122, 122, 57, 98, 57], [57, 98, 57], [122, 48, 122], [57, 57], [122, 98, 57]]
theorem bodies_ok : ∀ b ∈ bodies, ∀ f < 4, (b ++ [46] ++ [57, 57, 57].take f).head?.any isD = true ∧ (b ++ [46] ++ [57, 57, 57].take f).all okM = true ∧ (b ++ [46] ++ [57, 57, 57].take f).length ≤ 60 ∧
    ((b ++ [46] ++ [57, 57, 57].take f).filter isD).length = (b.filter isD).length + f ∧ 1 ≤ (b.filter isD).length ∧ (b.filter isD).length ≤ 5 ∧ b.head?.any isD = true ∧ b.all okM = true ∧ b.length ≤ 60 := by decide
theorem body_of {b : List Nat} {n : Nat} (h1 : b.head?.any isD = true) (h2 : b.all okM = true) (h3 : b.length ≤ 60) (h4 : (b.filter isD).length = n) : Body b n := by
  refine ⟨?_, fun c hc => List.all_eq_true.mp h2 c hc, h4, h3⟩
  cases b with
  | nil => cases h1
  | cons c r => exact ⟨c, r, rfl, h1⟩
theorem memI (c : Nat) : decide (c ∈ [122, 42, 57]) = isD c := by
  rw [← memD]
  congr 1
  simp
end MP
namespace MP
open PySem PySem.Spec PyProof.Rows L2
open SX (S)
theorem at_w (p : Pic) : atI p.vs (2 : Int) = some (.int (p.wh : Int)) := by cases p <;> exact WP.at2
theorem at_f (p : Pic) : atI p.vs (3 : Int) = some (.int (p.fr : Int)) := by cases p <;> exact WP.at3
/-- picture[1] if picture[0] == 'number' else picture[4] != '' -/
theorem sgdE {K : PySem.W.Frag} {σ : L2.St} {H : Hp} {Q : VK} {i : Nat} {p : Addr} {pic : Pic} (hv : σ[i]? = some (some (.ref p))) (hp : SqT K H p pic.vs) (q : Q (.bl pic.sgd) H) :
    tIf (tTest (tOp rEq (tOp (rIxT K) (tVar i) (tC (.int 0))) (tC (.str (S [110, 117, 109, 98, 101, 114]))))) (tOp (rIxT K) (tVar i) (tC (.int 1))) (tOp rNe (tOp (rIxT K) (tVar i) (tC (.int 4))) (tC (.str (S [])))) σ H Q := by
  refine WP.ifE (WP.test (WP.op (WP.op (WP.var hv (WP.con ?_)))))
  cases pic with
  | num sg a b =>
    refine WP.ixT hp WP.at0 (WP.con (WP.eqTS ?_))
    refine WP.isbV (R := fun b => if b = true then _ else _) ?_
    refine WP.brT (by decide) (WP.op (WP.var hv (WP.con (WP.ixT hp WP.at1 q))))
  | ed m a b s =>
    refine WP.ixT hp WP.at0 (WP.con (WP.eqTS ?_))
    refine WP.isbV (R := fun b => if b = true then _ else _) ?_
    refine WP.brF (by decide) (WP.op (WP.op (WP.var hv (WP.con (WP.ixT hp WP.at4 (WP.con (WP.neTS q)))))))
theorem ten_cast (n : Nat) : ((10 ^ n : Nat) : Int) = (10 : Int) ^ n := by rw [Int.natCast_pow]; rfl
theorem suits_abs {pic : Pic} {u : Int} (h0 : 0 ≤ u) (h : u < 10 ^ pic.n) : Suits pic u := ⟨by have := ten_cast pic.n; omega, .inl h0⟩
end MP
namespace MP
theorem memJ (c : Nat) : decide (c ∈ [44, 98, 48, 47]) = isI c := by
  unfold isI
  by_cases h1 : c = 44
  · subst h1; rfl
  by_cases h2 : c = 98
  · subst h2; rfl
  by_cases h3 : c = 48
  · subst h3; rfl
  by_cases h4 : c = 47
  · subst h4; rfl
  rw [decide_eq_false (by simp [h1, h2, h3, h4])]
  simp [h1, h2, h3, h4]
theorem bodyF_lt (fill : Nat) (hf : fill < 128) : ∀ (ms : List Nat) (hid : Bool) (fs : List Nat), (∀ c ∈ ms, okM c = true) → (∀ c ∈ fs, c < 128) → ∀ c ∈ bodyF fill hid ms fs, c < 128
  | [], hid, fs, _, _, c, hc => by unfold bodyF at hc; cases hc
  | m :: ms, hid, fs, h1, h2, c, hc => by
    have ok := h1 m (.head _)
    have h1' : ∀ c ∈ ms, okM c = true := fun c hc => h1 c (.tail _ hc)
    cases hD : isD m with
    | true =>
      cases fs with
      | nil =>
        unfold bodyF at hc
        rw [if_pos hD] at hc
        cases hc
      | cons d ds =>
        rw [bodyF_D hD] at hc
        have h2' : ∀ c ∈ ds, c < 128 := fun c hc => h2 c (.tail _ hc)
        rcases List.mem_cons.mp hc with e | e
        · rw [e]
          split
          · exact hf
          · exact h2 d (.head _)
        · exact bodyF_lt fill hf ms _ ds h1' h2' c e
    | false =>
      by_cases h46 : m = 46
      · subst h46
        rw [bodyF_P] at hc
        rcases List.mem_cons.mp hc with e | e
        · rw [e]; decide
        · exact bodyF_lt fill hf ms _ fs h1' h2 c e
      · rw [bodyF_I hD h46] at hc
        rcases List.mem_cons.mp hc with e | e
        · rw [e]
          split
          · exact hf
          · have hI : m = 44 ∨ m = 98 ∨ m = 48 ∨ m = 47 := by
              have : (m == 46) = false := beq_eq_false_iff_ne.mpr h46
              simpa [okM, hD, this, isI, or_assoc] using ok
            rcases hI with rfl | rfl | rfl | rfl <;> decide
        · exact bodyF_lt fill hf ms _ fs h1' h2 c e
theorem padL_lt : ∀ (k n c : Nat), c ∈ WP.padL k n → c < 128
  | 0, _, _, h => by cases h
  | k + 1, n, c, h => by
    rcases List.mem_append.mp (show c ∈ WP.padL k (n / 10) ++ [48 + n % 10] from h) with e | e
    · exact padL_lt k _ c e
    · rw [List.mem_singleton.mp e]; omega
theorem signText_lt : ∀ s ∈ signs, ∀ neg : Bool, ∀ c ∈ signText s neg, c < 128 := by decide
theorem writ_ok {pic : Pic} {u : Int} (h : pic.Ok) : WP.SOk (SX.S (writ pic u)) := WP.sok_S fun c hc => by
  have : c < 128 := by
    cases pic with
    | num sg w f =>
      rcases List.mem_append.mp (show c ∈ signText (if sg then [43] else []) (decide (u < 0)) ++ WP.padL (w + f) u.natAbs from hc) with e | e
      · refine signText_lt _ ?_ _ c e
        cases sg
        · exact (show ([] : List Nat) ∈ signs by decide)
        · exact (show ([43] : List Nat) ∈ signs by decide)
      · exact padL_lt _ _ c e
    | ed b w f s =>
      have hb : ∀ c ∈ bodyText b (WP.padL (w + f) u.natAbs), c < 128 := bodyF_lt _ (by unfold fillOf; split <;> decide) _ _ _ h.2.2.1.ok (fun c hc => padL_lt _ _ c hc)
      have hs := signText_lt s h.2.2.2 (decide (u < 0))
      have hc' : c ∈ (if s = [45] ∨ s = [43] then signText s (decide (u < 0)) ++ bodyText b (WP.padL (w + f) u.natAbs) else bodyText b (WP.padL (w + f) u.natAbs) ++ signText s (decide (u < 0))) := hc
      split at hc'
      · rcases List.mem_append.mp hc' with e | e
        · exact hs c e
        · exact hb c e
      · rcases List.mem_append.mp hc' with e | e
        · exact hb c e
        · exact hs c e
  omega
end MP
namespace MP
theorem due_eq {pic : Pic} {u : Int} : (decide ((u.natAbs : Int) < 10 ^ pic.n) && (decide (0 ≤ u) || pic.sgd)) = decide (Suits pic u) := by
  have c := ten_cast pic.n
  have e : ((u.natAbs : Int) < 10 ^ pic.n) ↔ u.natAbs < 10 ^ pic.n := by omega
  rw [Bool.eq_iff_iff, Bool.and_eq_true, Bool.or_eq_true, decide_eq_true_eq, decide_eq_true_eq, decide_eq_true_eq]
  unfold Suits
  rw [e]
end MP

namespace MP
theorem suits_cut {pic : Pic} {u : Int} : Suits pic (if u < 0 ∧ pic.sgd = true then -((u.natAbs : Int) % 10 ^ pic.n) else (u.natAbs : Int) % 10 ^ pic.n) := by
  have c := ten_cast pic.n
  have hT : (0 : Int) < 10 ^ pic.n := Int.pow_pos (by decide)
  have h0 := Int.emod_nonneg (u.natAbs : Int) (show (10 : Int) ^ pic.n ≠ 0 by omega)
  have h1 := Int.emod_lt_of_pos (u.natAbs : Int) hT
  generalize (u.natAbs : Int) % 10 ^ pic.n = x at h0 h1 ⊢
  split
  · rename_i h
    exact ⟨by omega, .inr h.2⟩
  · exact ⟨by omega, .inl h0⟩
end MP

namespace MW
open PySem PySem.Spec PyProof.Rows L2
open SX (S)
def FIG : List Nat := [48, 49, 50, 51, 52, 53, 54, 55, 56, 57]
def LET : List Nat := [97, 98, 99, 100, 101, 102, 103, 104, 105, 106, 107, 108, 109, 110, 111, 112, 113, 114, 115, 116, 117, 118, 119, 120, 121, 122]
/-- the printable signs -/
def PRN : List Nat := [32, 33, 34, 35, 36, 38, 39, 40, 41, 42, 43, 44, 45, 46, 47, 48, 49, 50, 51, 52, 53, 54, 55, 56, 57, 58, 59, 60, 61, 62, 63, 64, 65, 66, 67, 68, 69, 70, 71, 72, 73, 74, 75, 76, 77, 78, 79, 80, 81, 82, 83, 84, 85, 86, 87, 88, 89, 90, 91, 92, 93, 94, 95, 96, 97, 98, 99, 100, 101, 102, 103, 104, 105, 106, 107, 108, 109, 110, 111, 112, 113, 114, 115, 116, 117, 118, 119, 120, 121, 122, 123, 124, 125, 126]
def allIn (l cs : List Nat) : Bool := l.all fun c => decide (c ∈ cs)
def figs (l : List Nat) : Bool := !decide (l = []) && allIn l FIG
def prn (l : List Nat) : Bool := l.all fun c => decide (32 ≤ c ∧ c ≤ 126 ∧ c ≠ 37)
theorem allIn_nil (cs : List Nat) : allIn [] cs = true := rfl
theorem figs_all {l : List Nat} (h : figs l = true) : l ≠ [] ∧ l.all (fun c => decide (48 ≤ c) && decide (c ≤ 57)) = true := by
  unfold figs at h
  rw [Bool.and_eq_true, Bool.not_eq_true', decide_eq_false_iff_not] at h
  refine ⟨h.1, List.all_eq_true.mpr fun c hc => ?_⟩
  have := List.all_eq_true.mp h.2 c hc
  have m : c ∈ FIG := of_decide_eq_true this
  have : c = 48 ∨ c = 49 ∨ c = 50 ∨ c = 51 ∨ c = 52 ∨ c = 53 ∨ c = 54 ∨ c = 55 ∨ c = 56 ∨ c = 57 := by simpa [FIG] using m
  rw [Bool.and_eq_true, decide_eq_true_eq, decide_eq_true_eq]
  omega
/-- some value of the law: a text, or something else -/
inductive Wd (K : PySem.W.Frag) (H : Hp) : V → Prop
  | str {l : List Nat} (hl : l.length ≤ 1000) (ok : ∀ c ∈ l, c < 128) : Wd K H (.str (S l))
  | non : Wd K H .non
  | int (i : Int) : Wd K H (.int i)
  | bl (b : Bool) : Wd K H (.bl b)
  | tup {p : Addr} {xs : List V} (h : SqT K H p xs) : Wd K H (.ref p)
  | lst {p : Addr} {xs : List V} (h : SqL K H p xs) : Wd K H (.ref p)
theorem Wd.sm {K : PySem.W.Frag} {H H' : Hp} {v : V} (e : WP.Sm H H') (h : Wd K H v) : Wd K H' v := by
  cases h with
  | str hl ok => exact .str hl ok
  | non => exact .non
  | int i => exact .int i
  | bl b => exact .bl b
  | tup h => exact .tup (e.tup h)
  | lst h => exact .lst (e.lst h)
def isS : V → Bool
  | .str _ => true
  | _ => false
theorem tyL {K : PySem.W.Frag} {H : Hp} {p : Addr} {xs : List V} (h : SqL K H p xs) : TyX K H (.ref p) (.type "list") := by
  rcases h with (h | ⟨o, h⟩) | h
  · exact .base (.lst h)
  · exact .base (.frz h)
  · obtain ⟨o, its, n, h1, h2, h3⟩ := h
    exact .kList h1 h2
/-- isinstance(v, str) -/
theorem Wd.isStr {K : PySem.W.Frag} {H : Hp} {v : V} {Q : VK} (h : Wd K H v) (q : Q (.bl (isS v)) H) : rIsi K [v, .ty "str"] H Q := by
  cases h with
  | str hl ok => exact WP.isY (.base (.str _)) q
  | non => exact WP.isN (.base .non) q
  | int i => exact WP.isN (.base (.int i)) q
  | bl b => exact WP.isN (.base (.bl b)) q
  | tup h => exact WP.isN (WP.tyT h) q
  | lst h => exact WP.isN (tyL h) q
/-- what is asked of a text, False of another value -/
def onS (f : List Nat → Bool) : V → Bool
  | .str z => f z.cps.toList
  | _ => false
theorem onS_S {f : List Nat → Bool} {l : List Nat} : onS f (.str (S l)) = f l := rfl
theorem Wd.cases {K : PySem.W.Frag} {H : Hp} {v : V} (h : Wd K H v) : (∃ l, v = .str (S l) ∧ l.length ≤ 1000 ∧ ∀ c ∈ l, c < 128) ∨ (isS v = false ∧ ∀ f, onS f v = false) := by
  cases h with
  | str hl ok => exact .inl ⟨_, rfl, hl, ok⟩
  | _ => exact .inr ⟨rfl, fun _ => rfl⟩
/-- the reserved words -/
def RES : List (List Nat) := [[112, 114, 111, 103, 114, 97, 109], [100, 97, 116, 97], [102, 105, 108, 101, 115], [112, 114, 111, 99, 101, 100, 117, 114, 101], [112, 105, 99, 116, 117, 114, 101], [111, 99, 99, 117, 114, 115], [118, 97, 108, 117, 101], [105, 110, 112, 117, 116], [111, 117, 116, 112, 117, 116], [114, 101, 99, 111, 114, 100], [109, 111, 118, 101], [116, 111], [115, 101, 116], [114, 111, 117, 110, 100, 101, 100], [101, 108, 115, 101], [101, 110, 100], [100, 105, 118, 105, 100, 101], [98, 121], [103, 105, 118, 105, 110, 103], [114, 101, 109, 97, 105, 110, 100, 101, 114], [105, 102], [116, 104, 101, 110], [112, 101, 114, 102, 111, 114, 109], [116, 104, 114, 117], [116, 105, 109, 101, 115], [117, 110, 116, 105, 108], [118, 97, 114, 121, 105, 110, 103], [102, 114, 111, 109], [114, 101, 97, 100], [97, 116], [98, 97, 100], [119, 114, 105, 116, 101], [115, 104, 111, 119], [115, 111, 114, 116], [100, 101, 115, 99, 101, 110, 100, 105, 110, 103], [99, 108, 101, 97, 114], [115, 116, 111, 112], [110, 111, 116], [97, 110, 100], [111, 114], [100, 105, 103, 105, 116, 115], [116, 101, 120, 116]]
def nameB (l : List Nat) : Bool :=
  decide (1 ≤ l.length ∧ l.length ≤ 20) && (!decide (l ∈ RES) && (decide (l.headD 0 ∈ LET) && (!decide ((l.getLast?).getD 0 = 45) && allIn l (LET ++ FIG ++ [45]))))
theorem ends {l : List Nat} (h : 1 ≤ l.length) : atI l (0 : Int) = some (l.headD 0) ∧ atI l (-1 : Int) = some ((l.getLast?).getD 0) := by
  cases l with
  | nil => exact absurd h (by decide)
  | cons c r =>
    refine ⟨WP.at0, ?_⟩
    have e : ixN (c :: r).length (-1) = some r.length := by
      unfold ixN
      rw [if_neg (by decide)]
      rw [List.length_cons]
      first | (rw [if_pos (by omega)]; congr 1; omega) | (simp; omega)
    unfold atI
    rw [e]
    show (c :: r)[r.length]? = _
    have e2 : (c :: r).getLast? = (c :: r)[(c :: r).length - 1]? := List.getLast?_eq_getElem?
    rw [show (c :: r).length - 1 = r.length from rfl] at e2
    rw [← e2]
    simp [List.getLast?_cons]
theorem cps_S (l : List Nat) : (S l).cps.toList = l := rfl
theorem prn_codes (l : List Nat) : ((l.map fun c => ((c : Nat) : Int)).all fun c => decide ((32 : Int) ≤ c ∧ c ≤ 126 ∧ c ≠ 37)) = prn l := by
  unfold prn
  rw [List.all_map]
  congr 1
  funext c
  show decide _ = decide _
  congr 1
  exact propext ⟨fun (h : (32 : Int) ≤ (c : Int) ∧ (c : Int) ≤ 126 ∧ (c : Int) ≠ 37) => by omega, fun h => show (32 : Int) ≤ (c : Int) ∧ (c : Int) ≤ 126 ∧ (c : Int) ≠ 37 by omega⟩
theorem prn_in (l : List Nat) : allIn l PRN = prn l := by
  unfold allIn prn
  congr 1
  funext c
  congr 1
  refine propext ⟨fun h => ?_, fun ⟨h1, h2, h3⟩ => ?_⟩
  · have : ∀ c ∈ PRN, 32 ≤ c ∧ c ≤ 126 ∧ c ≠ 37 := by decide
    exact this c h
  · have : ∀ c < 127, 32 ≤ c → c ≠ 37 → c ∈ PRN := by decide
    exact this c (by omega) h1 h3
/-- the reserved words as data -/
def resD : List PyData := RES.map fun a => PyData.str (S a)
theorem dpAll_S {K : PySem.W.Frag} {H : Hp} : ∀ ls : List (List Nat), DpAll K H (ls.map fun a => V.str (S a)) (ls.map fun a => PyData.str (S a))
  | [] => .nil
  | _ :: r => .cons (.str _) (dpAll_S r)
theorem dpRes {K : PySem.W.Frag} (H : Hp) : DpAll K H (RES.map fun a => V.str (S a)) resD := dpAll_S RES
theorem resSh : SeqAt.shaped (.list resD) = true := by decide +kernel
theorem resLay : (PyData.list resD).canLay0 = true := by decide +kernel
end MW

namespace MT
open PySem PySem.Spec PyProof.Rows L2 MW
open SX (S)
/-! ### a text cut at the first sign c -/
def cutW (c : Nat) (l : List Nat) : List Nat := l.takeWhile (· != c)
def cutR (c : Nat) (l : List Nat) : Option (List Nat) := match l.dropWhile (· != c) with
  | [] => none
  | _ :: r => some r
theorem dw_head {c : Nat} : ∀ {l : List Nat} {x : Nat} {r : List Nat}, l.dropWhile (· != c) = x :: r → x = c
  | [], _, _, h => by cases h
  | y :: l, x, r, h => by
    by_cases e : y = c
    · subst e
      rw [List.dropWhile_cons_of_neg (by simp)] at h
      cases h; rfl
    · rw [List.dropWhile_cons_of_pos (by simp [e])] at h
      exact dw_head h
theorem cutW_free (c : Nat) (l : List Nat) : c ∉ cutW c l := fun h => by
  have := List.all_eq_true.mp (List.all_takeWhile (l := l) (p := (· != c))) c h
  simp at this
theorem cut_none {c : Nat} {l : List Nat} (h : cutR c l = none) : cutW c l = l ∧ c ∉ l := by
  have e := List.takeWhile_append_dropWhile (p := (· != c)) (l := l)
  have hd : l.dropWhile (· != c) = [] := by
    unfold cutR at h
    split at h
    · rename_i z; exact z
    · cases h
  rw [hd, List.append_nil] at e
  have e : cutW c l = l := e
  exact ⟨e, by have := cutW_free c l; rw [e] at this; exact this⟩
theorem cut_some {c : Nat} {l r : List Nat} (h : cutR c l = some r) : l = cutW c l ++ c :: r := by
  have e := List.takeWhile_append_dropWhile (p := (· != c)) (l := l)
  unfold cutR at h
  split at h
  · cases h
  · rename_i x r' z
    cases h
    rw [z, dw_head z] at e
    exact e.symm
theorem cut_of {c : Nat} : ∀ {p q : List Nat}, c ∉ p → cutW c (p ++ c :: q) = p ∧ cutR c (p ++ c :: q) = some q
  | [], q, _ => by
    unfold cutW cutR
    simp
  | x :: p, q, h => by
    have hx : x ≠ c := fun e => h (by rw [e]; exact List.mem_cons_self ..)
    obtain ⟨h1, h2⟩ := cut_of (q := q) (c := c) (p := p) fun m => h (List.mem_cons_of_mem _ m)
    unfold cutW cutR at *
    rw [List.cons_append, List.takeWhile_cons_of_pos (by simp [hx]), List.dropWhile_cons_of_pos (by simp [hx])]
    exact ⟨by rw [h1], h2⟩
theorem cut_of_none {c : Nat} {p : List Nat} (h : c ∉ p) : cutW c p = p ∧ cutR c p = none := by
  cases e : cutR c p with
  | none => exact ⟨(cut_none e).1, rfl⟩
  | some r =>
    have := cut_some e
    exact absurd (by rw [this]; exact List.mem_append_right _ (List.mem_cons_self ..)) h
/-- partition -/
theorem part_S (c : Nat) (l : List Nat) : Txt.partition (S l) (S [c]) = (S (cutW c l), S (match cutR c l with | none => [] | some _ => [c]), S ((cutR c l).getD [])) := by
  cases h : cutR c l with
  | none =>
    obtain ⟨e, n⟩ := cut_none h
    rw [SX.partition_none (List.cons_ne_nil _ _) (SX.par_head_none n), e]
    rfl
  | some r =>
    have e := cut_some h
    have n := cutW_free c l
    have q : TL.par [c] [] l = some (cutW c l, r) := (congrArg (TL.par [c] []) e).trans (SX.par_head r n)
    rw [SX.partition_some (List.cons_ne_nil _ _) q]
    rfl
/-- split -/
theorem spl_none {c : Nat} {l : List Nat} (h : cutR c l = none) : TL.spl [c] 0 [] l = [l] := by
  have := (cut_none h).2
  have q := TL.spl_last1 (S := []) (acc := []) this
  exact q
theorem spl_some {c : Nat} {l r : List Nat} (h : cutR c l = some r) : TL.spl [c] 0 [] l = cutW c l :: TL.spl [c] 0 [] r := by
  have e := cut_some h
  have n := cutW_free c l
  have q := TL.spl_part1 (S := []) (acc := []) (rest := r) n
  have key : ∀ p, l = p ++ c :: r → TL.spl [c] 0 [] (p ++ c :: r) = p :: TL.spl [c] 0 [] r → TL.spl [c] 0 [] l = p :: TL.spl [c] 0 [] r := fun p e q => by rw [e]; exact q
  exact key _ e q
theorem spl_ne {c : Nat} (l : List Nat) : 1 ≤ (TL.spl [c] 0 [] l).length := by
  cases h : cutR c l with
  | none => rw [spl_none h]; exact Nat.le_refl 1
  | some r => rw [spl_some h]; simp
theorem spl_count {c : Nat} (n : Nat) : ∀ l : List Nat, l.length ≤ n → (TL.spl [c] 0 [] l).length ≤ l.length + 1 := by
  induction n with
  | zero =>
    intro l h
    have : l = [] := List.length_eq_zero_iff.mp (by omega)
    subst this
    rw [TL.spl_nil]
    exact Nat.le_refl _
  | succ n ih =>
    intro l h
    cases e : cutR c l with
    | none => rw [spl_none e]; simp
    | some r =>
      have e2 := congrArg List.length (cut_some e)
      rw [List.length_append, List.length_cons] at e2
      rw [spl_some e, List.length_cons]
      have := ih r (by omega)
      omega
theorem spl_flat {c : Nat} (n : Nat) : ∀ l : List Nat, l.length ≤ n → (TL.spl [c] 0 [] l).flatten.length ≤ l.length := by
  induction n with
  | zero =>
    intro l h
    have : l = [] := List.length_eq_zero_iff.mp (by omega)
    subst this
    rw [TL.spl_nil]
    exact Nat.le_refl _
  | succ n ih =>
    intro l h
    cases e : cutR c l with
    | none => rw [spl_none e]; simp
    | some r =>
      have e2 := congrArg List.length (cut_some e)
      rw [List.length_append, List.length_cons] at e2
      rw [spl_some e, List.flatten_cons, List.length_append]
      have := ih r (by omega)
      omega
/-! ### what a text spells -/
def whole (l : List Nat) : Bool := figs l && (decide (l = [48]) || !decide (l.headD 0 = 48))
def sgn (neg : Bool) (n : Nat) : Int := if neg then -(n : Int) else (n : Int)
def spellB (neg : Bool) (w : List Nat) : Option (List Nat) → Option (Int × Nat)
  | none => if whole w = true ∧ w.length ≤ 18 then some (sgn neg (NumText.digitsVal w), 0) else none
  | some f => if whole w = true ∧ figs f = true ∧ w.length + f.length ≤ 18 then some (MD.nrm (sgn neg (NumText.digitsVal (w ++ f))) f.length) else none
theorem spellB_none {neg : Bool} {w : List Nat} : spellB neg w none = if whole w = true ∧ w.length ≤ 18 then some (sgn neg (NumText.digitsVal w), 0) else none := rfl
theorem spellB_some {neg : Bool} {w f : List Nat} : spellB neg w (some f) = if whole w = true ∧ figs f = true ∧ w.length + f.length ≤ 18 then some (MD.nrm (sgn neg (NumText.digitsVal (w ++ f))) f.length) else none := rfl
def isNeg (l : List Nat) : Bool := decide (l.head? = some 45)
def bodyOf (l : List Nat) : List Nat := if isNeg l = true then l.drop 1 else l
def spell (l : List Nat) : Option (Int × Nat) := spellB (isNeg l) (cutW 46 (bodyOf l)) (cutR 46 (bodyOf l))
theorem spl_filter {c : Nat} (n : Nat) : ∀ l : List Nat, l.length ≤ n → (TL.spl [c] 0 [] l).flatten = l.filter (fun x => !decide (x = c)) := by
  have keep : ∀ w : List Nat, c ∉ w → w.filter (fun x => !decide (x = c)) = w := fun w h => List.filter_eq_self.mpr fun x hx => by
    have : x ≠ c := fun e => h (by rw [← e]; exact hx)
    simp [this]
  induction n with
  | zero =>
    intro l h
    have : l = [] := List.length_eq_zero_iff.mp (by omega)
    subst this
    rw [TL.spl_nil]
    rfl
  | succ n ih =>
    intro l h
    cases e : cutR c l with
    | none =>
      rw [spl_none e, keep l (cut_none e).2]
      simp
    | some r =>
      have e1 := cut_some e
      have e2 := congrArg List.length e1
      rw [List.length_append, List.length_cons] at e2
      rw [spl_some e, List.flatten_cons, ih r (by omega)]
      have k := keep _ (cutW_free c l)
      have e3 := congrArg (List.filter (fun x => !decide (x = c))) e1
      rw [List.filter_append, k] at e3
      rw [e3, List.filter_cons]
      simp
theorem joinL0 : ∀ l : List (List Nat), TL.joinL [] l = l.flatten
  | [] => rfl
  | [p] => by simp [TL.joinL]
  | p :: q :: r => by rw [TL.joinL, joinL0 (q :: r)]; simp
/-- text.replace(c, '') -/
theorem repl_S {c : Nat} (hc : c < 256) (l : List Nat) : Txt.replace (S l) (S [c]) (S []) = S (l.filter (fun x => !decide (x = c))) := by
  have h := StrLaws.replace_one (S l) (S []) c
  have e : (⟨#[c]⟩ : Str) = S [c] := rfl
  rw [e] at h
  rw [h, SX.split_S (List.cons_ne_nil _ _) (by simpa using hc), ← TL.join_eq, SX.join_S, joinL0, spl_filter l.length l (Nat.le_refl _)]
/-! ### figures -/
theorem all_figs {l : List Nat} (h : NumText.AllDigits l) (ne : l ≠ []) : figs l = true := by
  unfold figs
  rw [decide_eq_false ne]
  refine List.all_eq_true.mpr fun c hc => decide_eq_true ?_
  have := h c hc
  have : c = 48 ∨ c = 49 ∨ c = 50 ∨ c = 51 ∨ c = 52 ∨ c = 53 ∨ c = 54 ∨ c = 55 ∨ c = 56 ∨ c = 57 := by omega
  simpa [FIG] using this
theorem numL_hd (n : Nat) : n = 0 ∨ (TL.numL n).headD 0 ≠ 48 := by
  induction n using Nat.strongRecOn with
  | ind n ih =>
    by_cases h : n < 10
    · rw [TL.numL_lt h]
      show n = 0 ∨ 48 + n ≠ 48
      omega
    · rw [TL.numL_step (by omega)]
      rcases ih (n / 10) (by omega) with e | e
      · omega
      · refine .inr ?_
        have ne := TL.numL_ne (n / 10)
        cases hx : TL.numL (n / 10) with
        | nil => exact absurd hx ne
        | cons a r => rw [hx] at e; exact e
theorem digits_zero (k : Nat) (l : List Nat) : NumText.digitsVal (List.replicate k 48 ++ l) = NumText.digitsVal l := by
  induction k with
  | zero => rfl
  | succ k ih => rw [List.replicate_succ, List.cons_append]; exact ih
theorem digits_app : ∀ l, NumText.AllDigits l → ∀ c ∈ l, 48 ≤ c ∧ c ≤ 57 := fun l h c hc => h c hc
end MT
namespace MT
open PySem PySem.Spec PyProof.Rows L2 MW
open SX (S)
/-- the figures of a decimal, and its text (as the program's show makes it) -/
def dF (u : Int) (s : Nat) : List Nat := List.replicate (s + 1 - (TL.numL u.natAbs).length) 48 ++ TL.numL u.natAbs
def dT (u : Int) (s : Nat) : List Nat := (if u < 0 then [45] else []) ++ (if s = 0 then dF u s else (dF u s).take ((dF u s).length - s) ++ [46] ++ (dF u s).drop ((dF u s).length - s))
theorem dF_dig (u : Int) (s : Nat) : NumText.AllDigits (dF u s) := fun c hc => by
  rcases List.mem_append.mp hc with h | h
  · rw [List.eq_of_mem_replicate h]; decide
  · exact TL.numL_digits _ c h
theorem dF_len (u : Int) (s : Nat) : s + 1 ≤ (dF u s).length := by
  have := List.length_pos_iff.mpr (TL.numL_ne u.natAbs)
  unfold dF
  rw [List.length_append, List.length_replicate]
  omega
theorem dF_val (u : Int) (s : Nat) : NumText.digitsVal (dF u s) = u.natAbs := by
  unfold dF
  rw [digits_zero, TL.numL_val]
/-- the part ahead of the point -/
theorem dF_whole (u : Int) (s : Nat) : whole ((dF u s).take ((dF u s).length - s)) = true := by
  have hl := dF_len u s
  have hn := List.length_pos_iff.mpr (TL.numL_ne u.natAbs)
  have ne : (dF u s).take ((dF u s).length - s) ≠ [] := fun e => by
    have := congrArg List.length e
    rw [List.length_take, List.length_nil] at this
    omega
  have dg : NumText.AllDigits ((dF u s).take ((dF u s).length - s)) := fun c hc => dF_dig u s c (List.mem_of_mem_take hc)
  unfold whole
  rw [all_figs dg ne, Bool.true_and, Bool.or_eq_true]
  by_cases h : (TL.numL u.natAbs).length ≤ s
  · left
    have e : (dF u s).length - s = 1 := by
      unfold dF
      rw [List.length_append, List.length_replicate]; omega
    rw [e]
    unfold dF
    obtain ⟨k, hk⟩ : ∃ k, s + 1 - (TL.numL u.natAbs).length = k + 1 := ⟨s - (TL.numL u.natAbs).length, by omega⟩
    rw [hk, List.replicate_succ]
    rfl
  · have e : dF u s = TL.numL u.natAbs := by
      unfold dF
      rw [show s + 1 - (TL.numL u.natAbs).length = 0 by omega]
      rfl
    rw [e]
    rcases numL_hd u.natAbs with z | z
    · left
      rw [z] at h ⊢
      have e0 : TL.numL 0 = [48] := TL.numL_lt (by decide)
      rw [e0] at h ⊢
      have : s = 0 := by have : ¬ (1 ≤ s) := h; omega
      subst this
      rfl
    · right
      obtain ⟨k, hk⟩ : ∃ k, (TL.numL u.natAbs).length - s = k + 1 := ⟨(TL.numL u.natAbs).length - s - 1, by omega⟩
      rw [hk]
      cases hx : TL.numL u.natAbs with
      | nil => exact absurd hx (TL.numL_ne _)
      | cons a r =>
        rw [hx] at z
        have z' : a ≠ 48 := z
        rw [List.take_succ_cons]
        show (!decide (a = 48)) = true
        rw [decide_eq_false z']; rfl
theorem dig_no {l : List Nat} (h : NumText.AllDigits l) {c : Nat} (hc : c < 48) : c ∉ l := fun m => by have := h c m; omega
theorem dT_neg (u : Int) (s : Nat) : isNeg (dT u s) = decide (u < 0) := by
  unfold isNeg dT
  by_cases h : u < 0
  · rw [if_pos h, decide_eq_true h]; rfl
  · rw [if_neg h, decide_eq_false h, List.nil_append]
    refine decide_eq_false fun e => ?_
    have hl := dF_len u s
    have m : (45 : Nat) ∈ dF u s := by
      split at e
      · exact List.mem_of_head? e
      · rename_i h0
        rw [List.append_assoc, List.head?_append] at e
        cases hx : ((dF u s).take ((dF u s).length - s)).head? with
        | none =>
          have : (dF u s).take ((dF u s).length - s) = [] := List.head?_eq_none_iff.mp hx
          have := congrArg List.length this
          rw [List.length_take, List.length_nil] at this
          omega
        | some a =>
          rw [hx] at e
          cases e
          exact List.mem_of_mem_take (List.mem_of_head? hx)
    exact dig_no (dF_dig u s) (by decide) m
theorem dT_body (u : Int) (s : Nat) : bodyOf (dT u s) = if s = 0 then dF u s else (dF u s).take ((dF u s).length - s) ++ 46 :: (dF u s).drop ((dF u s).length - s) := by
  unfold bodyOf
  rw [dT_neg]
  have e : ∀ a b : List Nat, a ++ [46] ++ b = a ++ 46 :: b := fun a b => by rw [List.append_assoc]; rfl
  by_cases h : u < 0
  · rw [if_pos (decide_eq_true h)]
    unfold dT
    rw [if_pos h, e]
    rfl
  · rw [if_neg (by rw [decide_eq_false h]; exact Bool.false_ne_true)]
    unfold dT
    rw [if_neg h, e]
    rfl
/-- the read-back -/
theorem spell_dT {u : Int} {s : Nat} (hd : MD.Dec u s) (hl : (dF u s).length ≤ 18) : spell (dT u s) = some (u, s) := by
  have hs : sgn (decide (u < 0)) u.natAbs = u := by
    unfold sgn
    by_cases h : u < 0
    · rw [if_pos (decide_eq_true h)]; omega
    · rw [if_neg (by rw [decide_eq_false h]; exact Bool.false_ne_true)]; omega
  unfold spell
  rw [dT_neg, dT_body]
  by_cases h0 : s = 0
  · subst h0
    rw [if_pos rfl]
    obtain ⟨e1, e2⟩ := cut_of_none (dig_no (dF_dig u 0) (show 46 < 48 by decide))
    rw [e1, e2]
    have hw := dF_whole u 0
    rw [Nat.sub_zero, List.take_length] at hw
    rw [spellB_none, if_pos ⟨hw, hl⟩, dF_val, hs]
  · rw [if_neg h0]
    obtain ⟨e1, e2⟩ := cut_of (c := 46) (p := (dF u s).take ((dF u s).length - s)) (q := (dF u s).drop ((dF u s).length - s)) fun m => dig_no (dF_dig u s) (show 46 < 48 by decide) (List.mem_of_mem_take m)
    rw [e1, e2]
    have len := dF_len u s
    have hf : figs ((dF u s).drop ((dF u s).length - s)) = true := all_figs (fun c hc => dF_dig u s c (List.mem_of_mem_drop hc)) fun e => by
      have := congrArg List.length e
      rw [List.length_drop, List.length_nil] at this
      omega
    rw [spellB_some, if_pos ⟨dF_whole u s, hf, by rw [List.length_take, List.length_drop]; omega⟩, List.take_append_drop, dF_val, hs, List.length_drop, show (dF u s).length - ((dF u s).length - s) = s by omega, MD.nrm_self hd]
/-- the figures alone -/
theorem dT_figs (u : Int) (s : Nat) : (((dT u s).filter (fun x => !decide (x = 45))).filter (fun x => !decide (x = 46))).length = (dF u s).length := by
  have key : ∀ l : List Nat, NumText.AllDigits l → (l.filter (fun x => !decide (x = 45))).filter (fun x => !decide (x = 46)) = l := fun l h => by
    rw [List.filter_filter]
    refine List.filter_eq_self.mpr fun x hx => ?_
    have := h x hx
    simp; omega
  have kd := dF_dig u s
  have e : ((dT u s).filter (fun x => !decide (x = 45))).filter (fun x => !decide (x = 46)) = dF u s := by
    unfold dT
    rw [List.filter_append, List.filter_append]
    have e1 : (((if u < 0 then [45] else [] : List Nat)).filter (fun x => !decide (x = 45))).filter (fun x => !decide (x = 46)) = [] := by split <;> rfl
    rw [e1, List.nil_append]
    split
    · exact key _ kd
    · rw [List.filter_append, List.filter_append, List.filter_append, List.filter_append, key _ (fun c hc => kd c (List.mem_of_mem_take hc)), key _ (fun c hc => kd c (List.mem_of_mem_drop hc))]
      rw [show ([46] : List Nat).filter (fun x => !decide (x = 45)) = [46] from rfl, show ([46] : List Nat).filter (fun x => !decide (x = 46)) = [] from rfl, List.append_nil, List.take_append_drop]
  rw [e]
end MT
namespace MT
open PySem PySem.Spec PyProof.Rows L2 MW
open SX (S)
theorem starts_S {c : Nat} {l : List Nat} : Txt.startswith (S l) (S [c]) = decide (l.head? = some c) := by
  unfold Txt.startswith
  have h := StrLaws.subAt_one (S l) c 0
  have e : (S l).cps.toList[0]? = l.head? := by rw [List.head?_eq_getElem?]
  rw [e] at h
  rw [Bool.eq_iff_iff, Bool.and_eq_true, decide_eq_true_eq, decide_eq_true_eq]
  exact h
theorem spell_def (l : List Nat) : spell l = spellB (isNeg l) (cutW 46 (bodyOf l)) (cutR 46 (bodyOf l)) := rfl
theorem body_len (l : List Nat) : (bodyOf l).length ≤ l.length := by
  unfold bodyOf
  split
  · rw [List.length_drop]; omega
  · exact Nat.le_refl _
theorem body_mem {l : List Nat} {c : Nat} (h : c ∈ bodyOf l) : c ∈ l := by
  unfold bodyOf at h
  split at h
  · exact List.mem_of_mem_drop h
  · exact h
theorem cutW_mem {k : Nat} {l : List Nat} {c : Nat} (h : c ∈ cutW k l) : c ∈ l := (List.takeWhile_sublist _).subset h
theorem cutR_mem {k : Nat} {l r : List Nat} (e : cutR k l = some r) {c : Nat} (h : c ∈ r) : c ∈ l := by
  rw [cut_some e]
  exact List.mem_append_right _ (List.mem_cons_of_mem _ h)
theorem cutR_len {k : Nat} {l r : List Nat} (e : cutR k l = some r) : (cutW k l).length + 1 + r.length = l.length := by
  have := congrArg List.length (cut_some e)
  rw [List.length_append, List.length_cons] at this
  omega
/-- figures == text -/
theorem body_eq (l : List Nat) : decide (bodyOf l = l) = !isNeg l := by
  unfold bodyOf
  cases h : isNeg l with
  | true =>
    rw [if_pos rfl]
    refine decide_eq_false fun e => ?_
    have h := of_decide_eq_true h
    cases l with
    | nil => cases h
    | cons a r => have := congrArg List.length e; simp at this
  | false => rw [if_neg Bool.false_ne_true]; exact decide_eq_true rfl
end MT
namespace MT
open PySem PySem.Spec PyProof.Rows L2 MW
open SX (S)
/-- more than one point -/
theorem not_figs {f : List Nat} {c : Nat} (h : c ∈ f) (hc : c < 48) : figs f = false := by
  cases e : figs f with
  | false => rfl
  | true =>
    have := List.all_eq_true.mp (figs_all e).2 c h
    rw [Bool.and_eq_true, decide_eq_true_eq] at this
    omega
theorem cutR_in {c : Nat} {l r : List Nat} (e : cutR c l = some r) : c ∈ l := by
  rw [cut_some e]
  exact List.mem_append_right _ (List.mem_cons_self ..)
theorem spl_len2 {c : Nat} (l : List Nat) : (TL.spl [c] 0 [] l).length = 1 ↔ cutR c l = none := by
  cases h : cutR c l with
  | none => rw [spl_none h]; simp
  | some r =>
    rw [spl_some h]
    have := spl_ne (c := c) r
    simp only [List.length_cons]
    exact ⟨fun e => by omega, fun e => by cases e⟩
/-- the law's reader, by the parts -/
def readP (neg : Bool) (ps : List (List Nat)) : Option (Int × Nat) :=
  if ps.length > 2 ∨ ps.flatten.length > 18 then none else
  if ps.all figs = false then none else
  if (ps.headD []).length > 1 ∧ (ps.headD []).headD 0 = 48 then none else
  some (MD.nrm (sgn neg (NumText.digitsVal ps.flatten)) (if ps.length = 2 then (ps.getD 1 []).length else 0))
theorem whole_iff (w : List Nat) : whole w = (figs w && !decide (w.length > 1 ∧ w.headD 0 = 48)) := by
  unfold whole
  cases hf : figs w with
  | false => rfl
  | true =>
    rw [Bool.true_and, Bool.true_and]
    have hne := (figs_all hf).1
    cases w with
    | nil => exact absurd rfl hne
    | cons a r =>
      cases r with
      | nil =>
        show (decide ([a] = [48]) || !decide (a = 48)) = !decide ((1 : Nat) > 1 ∧ a = 48)
        by_cases h : a = 48
        · subst h; rfl
        · rw [decide_eq_false (show ¬ [a] = [48] from fun e => h (by simpa using e)), decide_eq_false h, decide_eq_false (fun z => h z.2)]; rfl
      | cons b r =>
        show (decide (a :: b :: r = [48]) || !decide (a = 48)) = !decide ((a :: b :: r).length > 1 ∧ a = 48)
        rw [decide_eq_false (show ¬ a :: b :: r = [48] from fun e => by simp at e), Bool.false_or]
        congr 1
        congr 1
        exact propext ⟨fun h => ⟨by simp, h⟩, fun h => h.2⟩
theorem read_spell (neg : Bool) (b : List Nat) : spellB neg (cutW 46 b) (cutR 46 b) = readP neg (TL.spl [46] 0 [] b) := by
  cases h : cutR 46 b with
  | none =>
    rw [spl_none h, (cut_none h).1, spellB_none]
    unfold readP
    have e1 : [b].flatten = b := by simp
    have e2 : [b].all figs = figs b := by simp
    rw [e1, e2]
    show _ = if ((1 : Nat) > 2 ∨ b.length > 18) then none else _
    by_cases hl : b.length > 18
    · rw [if_neg (fun z => by have := z.2; omega), if_pos (.inr hl)]
    · rw [if_neg (show ¬ ((1 : Nat) > 2 ∨ b.length > 18) from fun z => z.elim (fun z => by omega) hl)]
      rw [whole_iff]
      cases hf : figs b with
      | false => rw [if_neg (fun z => by cases z.1), if_pos rfl]
      | true =>
        rw [if_neg (show ¬ (true = false) by simp)]
        show _ = if b.length > 1 ∧ b.headD 0 = 48 then none else some (MD.nrm (sgn neg (NumText.digitsVal b)) 0)
        by_cases hz : b.length > 1 ∧ b.headD 0 = 48
        · rw [if_neg (fun z => by rw [decide_eq_true hz] at z; cases z.1), if_pos hz]
        · rw [if_neg hz, if_pos ⟨by rw [decide_eq_false hz]; rfl, by omega⟩]
          rfl
  | some f =>
    rw [spl_some h, spellB_some]
    cases h2 : cutR 46 f with
    | some g =>
      rw [spl_some h2]
      have hn := not_figs (cutR_in h2) (by decide)
      rw [if_neg (fun z => by rw [hn] at z; cases z.2.1)]
      unfold readP
      rw [if_pos (.inl (by have := spl_ne (c := 46) g; simp only [List.length_cons]; omega))]
    | none =>
      rw [spl_none h2]
      unfold readP
      have e1 : [cutW 46 b, f].flatten = cutW 46 b ++ f := by simp
      have e2 : [cutW 46 b, f].all figs = (figs (cutW 46 b) && figs f) := by simp
      rw [e1, e2]
      show _ = if ((2 : Nat) > 2 ∨ (cutW 46 b ++ f).length > 18) then none else _
      generalize cutW 46 b = w
      rw [List.length_append]
      by_cases hl : w.length + f.length > 18
      · rw [if_neg (fun z => by have := z.2; omega), if_pos (.inr hl)]
      · rw [if_neg (show ¬ ((2 : Nat) > 2 ∨ w.length + f.length > 18) from fun z => z.elim (fun z => by omega) hl), whole_iff]
        cases hf : figs f with
        | false => rw [if_neg (fun z => by cases z.2.1), if_pos (by simp)]
        | true =>
          cases hw : figs w with
          | false => rw [if_neg (fun z => by cases z.1), if_pos (show (false && true) = false from rfl)]
          | true =>
            rw [if_neg (show ¬ ((true && true) = false) by simp)]
            show _ = if w.length > 1 ∧ w.headD 0 = 48 then none else some (MD.nrm (sgn neg (NumText.digitsVal (w ++ f))) f.length)
            by_cases hz : w.length > 1 ∧ w.headD 0 = 48
            · rw [if_neg (fun z => by rw [decide_eq_true hz] at z; cases z.1), if_pos hz]
            · rw [if_neg hz, if_pos ⟨by rw [decide_eq_false hz]; rfl, rfl, by omega⟩]
end MT
namespace MT
open PySem PySem.Spec PyProof.Rows L2 MW
open SX (S)
theorem repl_dash (l : List Nat) : Txt.replace (S l) ("-" : Str) ("" : Str) = S (l.filter (fun x => !decide (x = 45))) := by
  have e1 : ("-" : Str) = S [45] := by decide +kernel
  have e2 : ("" : Str) = S [] := by decide +kernel
  rw [e1, e2]; exact repl_S (by decide) l
theorem repl_dot (l : List Nat) : Txt.replace (S l) ("." : Str) ("" : Str) = S (l.filter (fun x => !decide (x = 46))) := by
  have e1 : ("." : Str) = S [46] := by decide +kernel
  have e2 : ("" : Str) = S [] := by decide +kernel
  rw [e1, e2]; exact repl_S (by decide) l
theorem empty_len : ("" : Str).length = 0 := by decide +kernel
theorem dF_le {u : Int} {s : Nat} (hu : u.natAbs ≤ 10 ^ 18) (hs : s ≤ 18) : (dF u s).length ≤ 19 := by
  have := TL.numL_len (k := 19) (by decide) (show u.natAbs < 10 ^ 19 from Nat.lt_of_le_of_lt hu (by decide))
  unfold dF
  rw [List.length_append, List.length_replicate]
  omega
theorem dT_ok {u : Int} {s : Nat} (hu : u.natAbs ≤ 10 ^ 18) (hs : s ≤ 18) : (dT u s).length ≤ 21 ∧ ∀ c ∈ dT u s, c < 128 := by
  have hl := dF_le hu hs
  have kd := dF_dig u s
  have kd' : ∀ c ∈ dF u s, c < 128 := fun c h => by have := kd c h; omega
  unfold dT
  constructor
  · rw [List.length_append]
    have e1 : (if u < 0 then [45] else [] : List Nat).length ≤ 1 := by split <;> decide
    have e2 : (if s = 0 then dF u s else (dF u s).take ((dF u s).length - s) ++ [46] ++ (dF u s).drop ((dF u s).length - s) : List Nat).length ≤ 20 := by
      split
      · omega
      · rw [List.length_append, List.length_append, List.length_take, List.length_drop]
        show _ + 1 + _ ≤ _
        omega
    omega
  · intro c hc
    rcases List.mem_append.mp hc with h | h
    · split at h
      · rw [List.mem_singleton.mp h]; decide
      · cases h
    · split at h
      · exact kd' c h
      · rcases List.mem_append.mp h with h | h
        · rcases List.mem_append.mp h with h | h
          · exact kd' c (List.mem_of_mem_take h)
          · rw [List.mem_singleton.mp h]; decide
        · exact kd' c (List.mem_of_mem_drop h)
end MT

namespace MR
open PySem PySem.Spec PyProof.Rows L2 MW MT
open SX (S)
/-! ### text.find(c, at) -/
theorem occ_full (s sub : Str) (hi : Nat) : ∀ (l : List Nat) (st : Array Nat × Nat), 1 ≤ st.fst.size → (forIn l st (StrLaws.occBody s sub hi 1)).run.fst = st.fst
  | [], st, _ => rfl
  | a :: l, st, h => by
    rw [List.forIn_cons]
    unfold StrLaws.occBody
    rw [if_neg (fun z => by have := z.1.1.1; omega)]
    exact occ_full s sub hi l _ h
theorem occ_first (s sub : Str) (hi : Nat) : ∀ (l : List Nat) (free : Nat), (∀ i ∈ l, free ≤ i) →
    (forIn l ((#[] : Array Nat), free) (StrLaws.occBody s sub hi 1)).run.fst.toList = (match l.find? (fun i => decide (i + sub.length ≤ hi ∧ Builtin.Str.subAt s sub i = true)) with | none => [] | some i => [i])
  | [], free, _ => rfl
  | a :: l, free, hf => by
    rw [List.forIn_cons]
    have ha : free ≤ a := hf a (List.mem_cons_self ..)
    by_cases hc : a + sub.length ≤ hi ∧ Builtin.Str.subAt s sub a = true
    · rw [List.find?_cons_of_pos (by simpa using hc)]
      unfold StrLaws.occBody
      rw [if_pos ⟨⟨⟨by simp, ha⟩, hc.1⟩, hc.2⟩]
      have := occ_full s sub hi l ((#[] : Array Nat).push a, a + sub.length) (by simp)
      show (forIn l ((#[] : Array Nat).push a, a + sub.length) (StrLaws.occBody s sub hi 1)).run.fst.toList = [a]
      rw [this]
      rfl
    · rw [List.find?_cons_of_neg (by simpa using hc)]
      unfold StrLaws.occBody
      rw [if_neg (fun h => hc ⟨h.1.2, h.2⟩)]
      exact occ_first s sub hi l free (fun i hi' => hf i (List.mem_cons_of_mem _ hi'))
theorem cut_consEq {c : Nat} {r : List Nat} : cutW c (c :: r) = [] ∧ cutR c (c :: r) = some r := cut_of (p := []) (fun h => by cases h)
theorem cut_consNe {c x : Nat} {r : List Nat} (h : x ≠ c) : cutW c (x :: r) = x :: cutW c r ∧ cutR c (x :: r) = cutR c r := by
  unfold cutW cutR
  rw [List.takeWhile_cons_of_pos (by simp [h]), List.dropWhile_cons_of_pos (by simp [h])]
  exact ⟨rfl, rfl⟩
theorem find_drop (c : Nat) (l : List Nat) : ∀ n lo, lo + n = l.length + 1 → (List.range' lo n).find? (fun i => decide (l[i]? = some c)) = (match cutR c (l.drop lo) with | none => none | some _ => some (lo + (cutW c (l.drop lo)).length))
  | 0, lo, h => by
    rw [List.drop_eq_nil_of_le (by omega)]
    rfl
  | n + 1, lo, h => by
    rw [List.range'_succ]
    by_cases hl : lo < l.length
    · rw [List.drop_eq_getElem_cons hl]
      by_cases hx : l[lo] = c
      · rw [List.find?_cons_of_pos (by rw [List.getElem?_eq_getElem hl, hx]; simp), hx, cut_consEq.1, cut_consEq.2]
        rfl
      · rw [List.find?_cons_of_neg (by rw [List.getElem?_eq_getElem hl]; simp [hx]), (cut_consNe hx).1, (cut_consNe hx).2, find_drop c l n (lo + 1) (by omega)]
        cases cutR c (l.drop (lo + 1)) with
        | none => rfl
        | some r => show some _ = some _; rw [List.length_cons]; congr 1; omega
    · rw [List.find?_cons_of_neg (by rw [List.getElem?_eq_none (by omega)]; simp), find_drop c l n (lo + 1) (by omega), List.drop_eq_nil_of_le (by omega), List.drop_eq_nil_of_le (by omega)]
      rfl
theorem find_S (c : Nat) (l : List Nat) (at0 : Nat) (h : at0 ≤ l.length) : Txt.find3 (S l) (S [c]) (at0 : Int) = (match cutR c (l.drop at0) with | none => -1 | some _ => ((at0 + (cutW c (l.drop at0)).length : Nat) : Int)) := by
  unfold Txt.find3
  have e0 : fromIndex (S l).length (at0 : Int) = at0 := by
    unfold fromIndex
    rw [if_neg (by omega)]
    omega
  rw [e0, StrLaws.occ_eq, occ_first _ _ _ _ _ (fun i hi => by have := List.mem_range'.mp hi; obtain ⟨k, _, e⟩ := this; omega)]
  have e1 : (fun i => decide (i + (S [c]).length ≤ (S l).length ∧ Builtin.Str.subAt (S l) (S [c]) i = true)) = (fun i => decide (l[i]? = some c)) := by
    funext i
    congr 1
    exact propext (StrLaws.subAt_one (S l) c i)
  rw [e1, SX.S_len, find_drop c l _ at0 (by omega)]
  cases cutR c (l.drop at0) with
  | none => rfl
  | some r => rfl
/-! ### lstrip of one sign -/
theorem dw_eq {c : Nat} : ∀ l : List Nat, (∃ k, l = List.replicate k c ++ l.dropWhile (· == c)) 
  | [] => ⟨0, rfl⟩
  | x :: l => by
    by_cases h : x = c
    · subst h
      obtain ⟨k, e⟩ := dw_eq (c := x) l
      refine ⟨k + 1, ?_⟩
      rw [List.dropWhile_cons_of_pos (by simp), List.replicate_succ, List.cons_append, ← e]
    · exact ⟨0, by rw [List.dropWhile_cons_of_neg (by simp [h])]; rfl⟩
/-! ### the spread row -/
def okC (w : List Nat) : Bool := figs w && (decide (w.length ≤ 2) && !decide (w.headD 0 = 48))
def cnt (r : List Nat) : Option (Nat × Nat) :=
  if r.head? = some 40 then
    match cutR 41 (r.drop 1) with
    | none => none
    | some _ => if okC (cutW 41 (r.drop 1)) = true then some (NumText.digitsVal (cutW 41 (r.drop 1)), (cutW 41 (r.drop 1)).length + 2) else none
  else some (1, 0)
def spr : Nat → List Nat → Option (List Nat)
  | 0, l => if l = [] then some [] else none
  | _ + 1, [] => some []
  | n + 1, m :: r => match cnt r with
    | none => none
    | some (c, k) => (spr n (r.drop k)).map (List.replicate c m ++ ·)
theorem spr_nil (n : Nat) : spr n [] = some [] := by cases n <;> rfl
theorem spr_fuel : ∀ (n m : Nat) (l : List Nat), l.length ≤ n → l.length ≤ m → spr n l = spr m l
  | _, _, [], _, _ => by rw [spr_nil, spr_nil]
  | 0, _, _ :: _, h, _ => absurd h (by simp)
  | _, 0, _ :: _, _, h => absurd h (by simp)
  | n + 1, m + 1, x :: r, hn, hm => by
    show (match cnt r with | none => none | some (c, k) => (spr n (r.drop k)).map (List.replicate c x ++ ·)) = (match cnt r with | none => none | some (c, k) => (spr m (r.drop k)).map (List.replicate c x ++ ·))
    cases cnt r with
    | none => rfl
    | some ck =>
      obtain ⟨c, k⟩ := ck
      show (spr n (r.drop k)).map _ = (spr m (r.drop k)).map _
      rw [spr_fuel n m (r.drop k) (by rw [List.length_drop]; simp at hn; omega) (by rw [List.length_drop]; simp at hm; omega)]
def spread (l : List Nat) : Option (List Nat) := spr l.length l
theorem spread_nil : spread [] = some [] := rfl
theorem spread_cons (x : Nat) (r : List Nat) : spread (x :: r) = match cnt r with
    | none => none
    | some (c, k) => (spread (r.drop k)).map (List.replicate c x ++ ·) := by
  show (match cnt r with | none => none | some (c, k) => (spr r.length (r.drop k)).map (List.replicate c x ++ ·)) = _
  cases cnt r with
  | none => rfl
  | some ck =>
    obtain ⟨c, k⟩ := ck
    show (spr r.length (r.drop k)).map _ = (spr (r.drop k).length (r.drop k)).map _
    rw [spr_fuel r.length (r.drop k).length (r.drop k) (by rw [List.length_drop]; omega) (Nat.le_refl _)]
theorem digits2 {w : List Nat} (h : okC w = true) : NumText.digitsVal w ≤ 99 := by
  unfold okC at h
  rw [Bool.and_eq_true, Bool.and_eq_true, decide_eq_true_eq] at h
  have hf := (figs_all h.1).2
  match w, h.2.1, hf with
  | [], _, _ => decide
  | [a], _, hf =>
    have := List.all_eq_true.mp hf a (by simp)
    rw [Bool.and_eq_true, decide_eq_true_eq, decide_eq_true_eq] at this
    show 0 * 10 + (a - 48) ≤ 99
    omega
  | [a, b], _, hf =>
    have h1 := List.all_eq_true.mp hf a (by simp)
    have h2 := List.all_eq_true.mp hf b (by simp)
    rw [Bool.and_eq_true, decide_eq_true_eq, decide_eq_true_eq] at h1 h2
    show (0 * 10 + (a - 48)) * 10 + (b - 48) ≤ 99
    omega
theorem cnt_le {r : List Nat} {c k : Nat} (h : cnt r = some (c, k)) : c ≤ 99 ∧ k ≤ r.length := by
  unfold cnt at h
  split at h
  · rename_i h40
    cases e : cutR 41 (r.drop 1) with
    | none => rw [e] at h; cases h
    | some q =>
      rw [e] at h
      by_cases ho : okC (cutW 41 (r.drop 1)) = true
      · rw [show (match some q with | none => none | some _ => if okC (cutW 41 (r.drop 1)) = true then some (NumText.digitsVal (cutW 41 (r.drop 1)), (cutW 41 (r.drop 1)).length + 2) else none) = some (NumText.digitsVal (cutW 41 (r.drop 1)), (cutW 41 (r.drop 1)).length + 2) from if_pos ho] at h
        cases h
        refine ⟨digits2 ho, ?_⟩
        have := cutR_len e
        rw [List.length_drop] at this
        omega
      · rw [show (match some q with | none => none | some _ => if okC (cutW 41 (r.drop 1)) = true then some (NumText.digitsVal (cutW 41 (r.drop 1)), (cutW 41 (r.drop 1)).length + 2) else none) = none from if_neg ho] at h
        cases h
  · cases h
    exact ⟨by decide, Nat.zero_le _⟩
theorem spread_len : ∀ (n : Nat) (l row : List Nat), l.length ≤ n → spread l = some row → row.length ≤ 99 * l.length
  | _, [], row, _, h => by rw [spread_nil] at h; cases h; exact Nat.zero_le _
  | 0, x :: r, _, hn, _ => absurd hn (by simp)
  | n + 1, x :: r, row, hn, h => by
    rw [spread_cons] at h
    cases e : cnt r with
    | none => rw [e] at h; cases h
    | some ck =>
      obtain ⟨c, k⟩ := ck
      rw [e] at h
      have h : (spread (r.drop k)).map (List.replicate c x ++ ·) = some row := h
      cases e2 : spread (r.drop k) with
      | none => rw [e2] at h; cases h
      | some q =>
        rw [e2] at h
        cases h
        have h1 := spread_len n (r.drop k) q (by rw [List.length_drop]; simp at hn; omega) e2
        have h2 := (cnt_le e).1
        rw [List.length_drop] at h1
        rw [List.length_append, List.length_replicate, List.length_cons]
        have : 99 * (r.length - k) ≤ 99 * r.length := Nat.mul_le_mul_left _ (by omega)
        omega
end MR
namespace MR
open PySem PySem.Spec PyProof.Rows L2 MW MT
open SX (S)
/-! ### the program's reading, written out -/
def allM (c : Nat) (l : List Nat) : Bool := l.all (fun x => decide (x = c))
theorem rep_iff {c : Nat} {l : List Nat} : decide (l = List.replicate l.length c) = allM c l := by
  unfold allM
  rw [Bool.eq_iff_iff, decide_eq_true_eq, List.all_eq_true]
  constructor
  · intro h x hx
    rw [h] at hx
    exact decide_eq_true (List.eq_of_mem_replicate hx)
  · intro h
    exact List.eq_replicate_of_mem fun x hx => of_decide_eq_true (h x hx)
def numP (l : List Nat) : Option MP.Pic :=
  let sg := decide (l.head? = some 115)
  let b := if sg = true then l.drop 1 else l
  if cutR 118 b = some [] then none else
  if allM 57 (cutW 118 b ++ (cutR 118 b).getD []) = true ∧ 1 ≤ (cutW 118 b ++ (cutR 118 b).getD []).length ∧ (cutW 118 b ++ (cutR 118 b).getD []).length ≤ 18
  then some (.num sg (cutW 118 b).length ((cutR 118 b).getD []).length) else none
def INS : List Nat := [44, 98, 48, 47]
def dig (a : List Nat) : List Nat := a.filter (fun x => !decide (x ∈ INS))
def wh (d : List Nat) : List Nat := if d.head? = some 122 then d.dropWhile (· == 122) else d.dropWhile (· == 42)
def edP (m sign : List Nat) : Option MP.Pic :=
  let A := cutW 46 m
  let B := (cutR 46 m).getD []
  if ¬ (m.take 1 ∈ [[122], [42], [57]]) ∨ allM 57 (wh (dig A)) = false then none else
  if allM 57 B = false ∨ cutR 46 m = some [] then none else
  if (dig A).length + B.length > 18 then none else
  if sign = [] ∧ allM 57 m = true then none else
  some (.ed m (dig A).length B.length sign)
def last1 (l : List Nat) : Nat := (l.getLast?).getD 0
def partP (l : List Nat) : List Nat × List Nat :=
  if l.headD 0 = 45 ∨ l.headD 0 = 43 then (l.drop 1, [l.headD 0])
  else if last1 l = 45 ∨ last1 l = 43 then (l.take (l.length - 1), [46, last1 l])
  else if l.drop (l.length - 2) = [99, 114] ∨ l.drop (l.length - 2) = [100, 98] then (l.take (l.length - 2), l.drop (l.length - 2))
  else (l, [])
inductive Res where
  | txt (n : Nat)
  | pic (p : MP.Pic)
def Res.vs : Res → List V
  | .txt n => [.str (S [116, 101, 120, 116]), .int (n : Int)]
  | .pic p => p.vs
/-- of the spread row -/
def rowP (row : List Nat) : Option Res :=
  if 1 ≤ row.length ∧ row.length ≤ 80 then
    if allM 120 row = true then some (.txt row.length) else
    match numP row with
    | some p => some (.pic p)
    | none => (edP (partP row).1 (partP row).2).map .pic
  else none
def readPic (l : List Nat) : Option Res := match spread l with
  | none => none
  | some row => rowP row
/-- a picture or none comes back -/
def RetO (o : Option MP.Pic) (H : Hp) (Q : VK) : Prop := (o = none → WP.RetV .non H Q) ∧ ∀ p, o = some p → WP.RetT p.vs H Q
theorem drop_tw {p : Nat → Bool} (l : List Nat) : l.drop (l.takeWhile p).length = l.dropWhile p := by
  have e := List.takeWhile_append_dropWhile (p := p) (l := l)
  have : (l.takeWhile p ++ l.dropWhile p).drop (l.takeWhile p).length = l.dropWhile p := List.drop_left
  rw [e] at this
  exact this
theorem lstrip_S {c : Nat} {l : List Nat} : Txt.lstripChars (S l) (S [c]) = S (l.dropWhile (· == c)) := by
  unfold Txt.lstripChars
  rw [PyProof.Rows.stripBy_eq]
  have e1 : stripLo (S [c]).cps.contains true (S l) = (l.takeWhile (· == c)).length := by
    unfold stripLo
    rw [if_pos rfl]
    congr 2
    funext x
    show #[c].contains x = (x == c)
    rw [Array.contains_eq_mem]
    by_cases h : x = c
    · subst h; simp
    · rw [beq_eq_false_iff_ne.mpr h]; simp [h]
  have e2 : stripHi (S [c]).cps.contains false (S l) (stripLo (S [c]).cps.contains true (S l)) = l.length := by
    unfold stripHi
    rw [if_neg Bool.false_ne_true, SX.S_len]
  rw [e2, e1, PyProof.Rows.strSub_mk]
  show S ((l.drop _).take (l.length - _)) = _
  rw [List.take_of_length_le (by rw [List.length_drop]; omega), drop_tw]
end MR
namespace MR
open PySem PySem.Spec PyProof.Rows L2 MW MT
open SX (S)
def lawOut (l : List Nat) : List Nat := match spread l with
  | none => []
  | some row => if row.length ≤ 80 then row else []
theorem slice_m2 {l : List Nat} (h : 1 ≤ l.length) : Txt.slice (S l) (some (-2)) none = S (l.drop (l.length - 2)) := by
  by_cases h2 : 2 ≤ l.length
  · have := WP.slice_fromN (l := l) (i := -2) (by decide) (by omega)
    rw [this, show (-2 + (l.length : Int)).toNat = l.length - 2 by omega]
  · have hl : l.length = 1 := by omega
    have e : Txt.slice (S l) (some (-2)) none = Txt.slice (S l) (some 0) none := by
      unfold Txt.slice
      rw [SX.S_len, hl]
      rfl
    rw [e, SX.slice_from (by decide), hl]
    rfl
theorem m2 {l : List Nat} {H : Hp} {Q : VK} (h : 1 ≤ l.length) (hl : l.length ≤ sizeLine) (q : Q (.str (S (l.drop (l.length - 2)))) H) : rSlS (.str (S l)) (some (-2)) none H Q := WP.slS _ (by rw [SX.S_len]; exact hl) (by rw [slice_m2 h]; exact q)
theorem cnt_40 {q : List Nat} : cnt (40 :: q) = match cutR 41 q with
    | none => none
    | some _ => if okC (cutW 41 q) = true then some (NumText.digitsVal (cutW 41 q), (cutW 41 q).length + 2) else none := by
  unfold cnt
  rw [if_pos (show (40 :: q).head? = some 40 from rfl)]
  rfl
theorem cnt_no {r : List Nat} (h : r.head? ≠ some 40) : cnt r = some (1, 0) := by
  unfold cnt
  rw [if_neg h]
theorem RetO.none' {H H' : Hp} {Q : VK} {o : Option MP.Pic} (k : RetO o H Q) (e : Same H H') (h : o = none) : Q .non H' := k.1 h H' e
theorem RetO.some' {H H' : Hp} {Q : VK} {o : Option MP.Pic} {p : MP.Pic} (k : RetO o H Q) (e : Same H H') (h : o = some p) : ∀ t, H' t = none → Q (.ref t) (upd H' t (.tup p.vs)) := (k.2 p h).new e
end MR
namespace MR
theorem wh_len (d : List Nat) : (wh d).length ≤ d.length := by
  unfold wh
  split <;> exact (List.dropWhile_sublist _).length_le
theorem partP_len (l : List Nat) : (partP l).1.length ≤ l.length := by
  unfold partP
  split
  · show (l.drop 1).length ≤ _; rw [List.length_drop]; omega
  · split
    · show (l.take _).length ≤ _; rw [List.length_take]; omega
    · split
      · show (l.take _).length ≤ _; rw [List.length_take]; omega
      · exact Nat.le_refl _
end MR

namespace MR
open PySem PySem.Spec PyProof.Rows L2 MW MT
open SX (S)
/-! ### the law's count -/
def fg (c : Nat) : Bool := decide (c ∈ FIG)
def dn (q : List Nat) : Nat := min 3 (q.takeWhile fg).length
def lcnt (q : List Nat) : Option (Nat × Nat) :=
  if q.take (dn q) = [] ∨ (q.take (dn q)).length > 2 ∨ (q.take (dn q)).headD 0 = 48 ∨ (q.drop (dn q)).take 1 ≠ [41] then none else some (NumText.digitsVal (q.take (dn q)), (q.take (dn q)).length + 2)
theorem fg_no {c : Nat} (h : c < 48) : fg c = false := by
  unfold fg
  refine decide_eq_false fun m => ?_
  have : c = 48 ∨ c = 49 ∨ c = 50 ∨ c = 51 ∨ c = 52 ∨ c = 53 ∨ c = 54 ∨ c = 55 ∨ c = 56 ∨ c = 57 := by simpa [FIG] using m
  omega
theorem tw_app {w r : List Nat} (hw : ∀ c ∈ w, fg c = true) (hr : r.head?.all (fun c => !fg c) = true) : (w ++ r).takeWhile fg = w := by
  induction w with
  | nil =>
    cases r with
    | nil => rfl
    | cons a r =>
      have : fg a = false := by simpa using hr
      rw [List.nil_append, List.takeWhile_cons_of_neg (by rw [this]; exact Bool.false_ne_true)]
  | cons a w ih =>
    rw [List.cons_append, List.takeWhile_cons_of_pos (hw a (.head _)), ih fun c hc => hw c (.tail _ hc)]
theorem lcnt_eq (q : List Nat) : cnt (40 :: q) = lcnt q := by
  rw [cnt_40]
  have tw := List.takeWhile_append_dropWhile (p := fg) (l := q)
  have htw : ∀ c ∈ q.takeWhile fg, fg c = true := fun c hc => List.all_eq_true.mp List.all_takeWhile c hc
  by_cases hbad : q.take (dn q) = [] ∨ (q.take (dn q)).length > 2 ∨ (q.take (dn q)).headD 0 = 48 ∨ (q.drop (dn q)).take 1 ≠ [41]
  · have e : lcnt q = none := if_pos hbad
    rw [e]
    cases hc : cutR 41 q with
    | none => rfl
    | some rest =>
      show (if okC (cutW 41 q) = true then _ else none) = none
      refine if_neg fun ho => ?_
      have hq := cut_some hc
      unfold okC at ho
      rw [Bool.and_eq_true, Bool.and_eq_true, decide_eq_true_eq, Bool.not_eq_true', decide_eq_false_iff_not] at ho
      obtain ⟨hf, h2, h48⟩ := ho
      generalize cutW 41 q = w at hq hf h2 h48
      have hne := (figs_all hf).1
      have hwf : ∀ c ∈ w, fg c = true := fun c hcw => by
        unfold figs at hf
        rw [Bool.and_eq_true] at hf
        exact List.all_eq_true.mp hf.2 c hcw
      have etw : q.takeWhile fg = w := by
        rw [hq]
        exact tw_app hwf (by simp [fg_no (show 41 < 48 by decide)])
      have ed : dn q = w.length := by unfold dn; rw [etw]; omega
      rw [ed] at hbad
      have et : q.take w.length = w := by rw [hq]; exact List.take_left
      have edr : q.drop w.length = 41 :: rest := by rw [hq]; exact List.drop_left
      rw [et, edr] at hbad
      rcases hbad with h | h | h | h
      · exact hne h
      · omega
      · exact h48 h
      · exact h rfl
  · have hg : ¬ q.take (dn q) = [] ∧ ¬ (q.take (dn q)).length > 2 ∧ ¬ (q.take (dn q)).headD 0 = 48 ∧ (q.drop (dn q)).take 1 = [41] := by
      refine ⟨fun h => hbad (.inl h), fun h => hbad (.inr (.inl h)), fun h => hbad (.inr (.inr (.inl h))), ?_⟩
      exact Classical.byContradiction fun h => hbad (.inr (.inr (.inr h)))
    have e : lcnt q = some (NumText.digitsVal (q.take (dn q)), (q.take (dn q)).length + 2) := if_neg hbad
    rw [e]
    obtain ⟨g1, g2, g3, g4⟩ := hg
    obtain ⟨rest, hr⟩ : ∃ rest, q.drop (dn q) = 41 :: rest := by
      cases hx : q.drop (dn q) with
      | nil => rw [hx] at g4; simp at g4
      | cons a r => rw [hx] at g4; simp at g4; exact ⟨r, by rw [g4]⟩
    have hq : q = q.take (dn q) ++ 41 :: rest := by rw [← hr, List.take_append_drop]
    have hwf : ∀ c ∈ q.take (dn q), fg c = true := fun c hc => by
      have hpre : q.take (dn q) = (q.takeWhile fg).take (dn q) := by
        have hle : dn q ≤ (q.takeWhile fg).length := Nat.min_le_right _ _
        have h3 : (q.takeWhile fg ++ q.dropWhile fg).take (dn q) = (q.takeWhile fg).take (dn q) := List.take_append_of_le_length hle
        rw [tw] at h3
        exact h3
      rw [hpre] at hc
      exact htw c (List.mem_of_mem_take hc)
    generalize q.take (dn q) = w at *
    have n41 : 41 ∉ w := fun m => by have := hwf 41 m; rw [fg_no (by decide)] at this; cases this
    obtain ⟨c1, c2⟩ := cut_of (q := rest) n41
    rw [← hq] at c1 c2
    rw [c2, c1]
    show (if okC w = true then _ else none) = _
    rw [if_pos]
    unfold okC figs
    rw [decide_eq_false g1, show allIn w FIG = true from List.all_eq_true.mpr fun c hc => hwf c hc, decide_eq_true (show w.length ≤ 2 by omega), decide_eq_false g3]
    rfl
/-! ### the law's number -/
def lnum (sg : Bool) (ps : List (List Nat)) : Option MP.Pic :=
  if ps.length > 2 ∨ allIn ps.flatten [57] = false ∨ (ps.getLast?).getD [] = [] then none else
  if (ps.headD []).length + (if ps.length = 2 then (ps.getD 1 []).length else 0) ≤ 18 then some (.num sg (ps.headD []).length (if ps.length = 2 then (ps.getD 1 []).length else 0)) else none
theorem allM_in {c : Nat} {l : List Nat} : allIn l [c] = allM c l := by
  unfold allIn allM
  congr 1
  funext x
  congr 1
  simp
theorem numB (l : List Nat) : numP l = (let b := if decide (l.head? = some 115) = true then l.drop 1 else l; if cutR 118 b = some [] then none else
  if allM 57 (cutW 118 b ++ (cutR 118 b).getD []) = true ∧ 1 ≤ (cutW 118 b ++ (cutR 118 b).getD []).length ∧ (cutW 118 b ++ (cutR 118 b).getD []).length ≤ 18
  then some (.num (decide (l.head? = some 115)) (cutW 118 b).length ((cutR 118 b).getD []).length) else none) := rfl
theorem lnum_eq (sg : Bool) (b : List Nat) : (if cutR 118 b = some [] then none else
  if allM 57 (cutW 118 b ++ (cutR 118 b).getD []) = true ∧ 1 ≤ (cutW 118 b ++ (cutR 118 b).getD []).length ∧ (cutW 118 b ++ (cutR 118 b).getD []).length ≤ 18
  then some (MP.Pic.num sg (cutW 118 b).length ((cutR 118 b).getD []).length) else none) = lnum sg (TL.spl [118] 0 [] b) := by
  cases h : cutR 118 b with
  | none =>
    rw [spl_none h, (cut_none h).1, if_neg (by simp)]
    unfold lnum
    have e1 : [b].flatten = b := by simp
    rw [e1, allM_in]
    show _ = if ((1 : Nat) > 2 ∨ allM 57 b = false ∨ b = []) then none else if b.length + 0 ≤ 18 then some (MP.Pic.num sg b.length 0) else none
    rw [Option.getD_none, List.append_nil]
    by_cases hb : b = []
    · subst hb
      rw [if_neg (fun z => by have := z.2.1; simp at this), if_pos (.inr (.inr rfl))]
    · have hp := List.length_pos_iff.mpr hb
      cases ha : allM 57 b with
      | false => rw [if_neg (fun z => by cases z.1), if_pos (.inr (.inl rfl))]
      | true =>
        rw [if_neg (show ¬ ((1 : Nat) > 2 ∨ true = false ∨ b = []) from fun z => z.elim (fun z => by omega) (fun z => z.elim (fun z => by cases z) hb))]
        by_cases h18 : b.length ≤ 18
        · rw [if_pos ⟨rfl, hp, h18⟩, if_pos (by omega)]; rfl
        · rw [if_neg (fun z => h18 z.2.2), if_neg (by omega)]
  | some f =>
    rw [spl_some h]
    cases h2 : cutR 118 f with
    | some g =>
      have hin := cutR_in h2
      have hna : allM 57 (cutW 118 b ++ f) = false := by
        cases ha : allM 57 (cutW 118 b ++ f) with
        | false => rfl
        | true =>
          have := List.all_eq_true.mp ha 118 (List.mem_append_right _ hin)
          simp at this
      have hg : ¬ (some f = some ([] : List Nat)) := fun z => by
        have : f = [] := by simpa using z
        rw [this] at hin; cases hin
      rw [if_neg hg, Option.getD_some, if_neg (fun z => by rw [hna] at z; cases z.1)]
      unfold lnum
      rw [spl_some h2, if_pos (.inl (by have := spl_ne (c := 118) g; simp only [List.length_cons]; omega))]
    | none =>
      rw [spl_none h2]
      unfold lnum
      have e1 : [cutW 118 b, f].flatten = cutW 118 b ++ f := by simp
      rw [e1, allM_in, Option.getD_some]
      generalize cutW 118 b = w
      show _ = if ((2 : Nat) > 2 ∨ allM 57 (w ++ f) = false ∨ f = []) then none else if w.length + f.length ≤ 18 then some (MP.Pic.num sg w.length f.length) else none
      by_cases hf : f = []
      · subst hf
        rw [if_pos rfl, if_pos (.inr (.inr rfl))]
      · have hp := List.length_pos_iff.mpr hf
        rw [if_neg (show ¬ (some f = some ([] : List Nat)) from fun z => hf (by simpa using z))]
        cases ha : allM 57 (w ++ f) with
        | false => rw [if_neg (fun z => by cases z.1), if_pos (.inr (.inl rfl))]
        | true =>
          rw [if_neg (show ¬ ((2 : Nat) > 2 ∨ true = false ∨ f = []) from fun z => z.elim (fun z => by omega) (fun z => z.elim (fun z => by cases z) hf))]
          by_cases h18 : w.length + f.length ≤ 18
          · rw [if_pos ⟨rfl, by rw [List.length_append]; omega, by rw [List.length_append]; omega⟩, if_pos h18]
          · rw [if_neg (fun z => h18 (by have := z.2.2; rw [List.length_append] at this; exact this)), if_neg h18]
end MR
namespace MR
open PySem PySem.Spec PyProof.Rows L2 MW MT
open SX (S)
/-! ### the law's edited pictures -/
def Z3 : List Nat := [122, 42, 57]
def Z7 : List Nat := [122, 42, 57, 44, 98, 48, 47]
def mk3 (a : List Nat) : List Nat := a.filter (fun x => decide (x ∈ Z3))
def hidn (m : List Nat) : Nat := (m.filter (fun x => !decide (x = 57))).length
theorem z3_iff (c : Nat) : c ∈ Z3 ↔ c = 122 ∨ c = 42 ∨ c = 57 := by simp [Z3]
theorem ins_iff (c : Nat) : c ∈ INS ↔ c = 44 ∨ c = 98 ∨ c = 48 ∨ c = 47 := by simp [INS]
theorem z7_iff (c : Nat) : c ∈ Z7 ↔ c ∈ Z3 ∨ c ∈ INS := by rw [z3_iff, ins_iff]; simp [Z7, or_assoc]
theorem dw9 {c : Nat} (hc : c ≠ 57) {n : List Nat} (h : allM 57 n = true) : n.dropWhile (· == c) = n := by
  cases n with
  | nil => rfl
  | cons a r =>
    have : a = 57 := of_decide_eq_true (List.all_eq_true.mp h a (.head _))
    rw [List.dropWhile_cons_of_neg (by rw [this]; simp; omega)]
theorem dw_rep {c : Nat} (hc : c ≠ 57) {n : List Nat} (h : allM 57 n = true) : ∀ k, (List.replicate k c ++ n).dropWhile (· == c) = n
  | 0 => dw9 hc h
  | k + 1 => by rw [List.replicate_succ, List.cons_append, List.dropWhile_cons_of_pos (by simp), dw_rep hc h k]
theorem wh_shape {d : List Nat} (h : allM 57 (wh d) = true) : ∃ x k n, (x = 122 ∨ x = 42) ∧ d = List.replicate k x ++ n ∧ allM 57 n = true := by
  unfold wh at h
  split at h
  · obtain ⟨k, e⟩ := dw_eq (c := 122) d
    exact ⟨122, k, _, .inl rfl, e, h⟩
  · obtain ⟨k, e⟩ := dw_eq (c := 42) d
    exact ⟨42, k, _, .inr rfl, e, h⟩
theorem hid_shape {x k : Nat} {n : List Nat} (hx : x = 122 ∨ x = 42) (hn : allM 57 n = true) : hidn (List.replicate k x ++ n) = k := by
  unfold hidn
  rw [List.filter_append]
  have e1 : (List.replicate k x).filter (fun y => !decide (y = 57)) = List.replicate k x := List.filter_eq_self.mpr fun y hy => by
    rw [List.eq_of_mem_replicate hy]; rcases hx with rfl | rfl <;> rfl
  have e2 : n.filter (fun y => !decide (y = 57)) = [] := List.filter_eq_nil_iff.mpr fun y hy => by
    have := List.all_eq_true.mp hn y hy
    rw [this]; simp
  rw [e1, e2, List.append_nil, List.length_replicate]
/-- the two ways to look at the marks ahead of the point -/
def lawOk (A : List Nat) : Prop := allIn A Z7 = true ∧ (mk3 A).take (hidn (mk3 A)) = List.replicate (hidn (mk3 A)) ((mk3 A).headD 0) ∧ allM 57 ((mk3 A).drop (hidn (mk3 A))) = true
theorem dig_mk {A : List Nat} (h : allIn A Z7 = true) : dig A = mk3 A := by
  unfold dig mk3
  refine List.filter_congr fun x hx => ?_
  have hz := of_decide_eq_true (List.all_eq_true.mp h x hx)
  rw [z7_iff] at hz
  by_cases h1 : x ∈ Z3
  · rw [decide_eq_true h1, decide_eq_false (fun h2 => by rw [z3_iff] at h1; rw [ins_iff] at h2; omega)]; rfl
  · rw [decide_eq_false h1, decide_eq_true (hz.elim (fun z => absurd z h1) id)]; rfl
theorem ok_iff (A : List Nat) : (allM 57 (wh (dig A)) = true → lawOk A) ∧ (lawOk A → allM 57 (wh (dig A)) = true) := by
  constructor
  · intro h
    obtain ⟨x, k, n, hx, e, hn⟩ := wh_shape h
    have hd3 : ∀ a ∈ dig A, a ∈ Z3 := fun a ha => by
      rw [e] at ha
      rw [z3_iff]
      rcases List.mem_append.mp ha with z | z
      · rw [List.eq_of_mem_replicate z]; omega
      · have := of_decide_eq_true (List.all_eq_true.mp hn a z); omega
    have h7 : allIn A Z7 = true := List.all_eq_true.mpr fun a ha => decide_eq_true (by
      rw [z7_iff]
      by_cases hi : a ∈ INS
      · exact .inr hi
      · exact .inl (hd3 a (List.mem_filter.mpr ⟨ha, by rw [decide_eq_false hi]; rfl⟩)))
    have em := dig_mk h7
    rw [em] at e
    refine ⟨h7, ?_, ?_⟩
    · rw [e, hid_shape hx hn]
      rw [show (List.replicate k x ++ n).take k = List.replicate k x from by rw [List.take_append_of_le_length (by rw [List.length_replicate]; exact Nat.le_refl _), List.take_of_length_le (by rw [List.length_replicate]; exact Nat.le_refl _)]]
      cases k with
      | zero => rfl
      | succ k => rfl
    · rw [e, hid_shape hx hn]
      rw [List.drop_append_of_le_length (by rw [List.length_replicate]; exact Nat.le_refl _), List.drop_of_length_le (by rw [List.length_replicate]; exact Nat.le_refl _)]
      exact hn
  · rintro ⟨h7, h1, h2⟩
    rw [dig_mk h7]
    have h3 : ∀ a ∈ mk3 A, a ∈ Z3 := fun a ha => of_decide_eq_true (List.mem_filter.mp ha).2
    generalize hM : mk3 A = M at *
    have e : M = List.replicate (hidn M) (M.headD 0) ++ M.drop (hidn M) := by
      rw [← h1, List.take_append_drop]
    generalize hn : M.drop (hidn M) = n at *
    by_cases hH : hidn M = 0
    · rw [hH, List.replicate_zero, List.nil_append] at e
      unfold wh
      rw [e]
      split
      · rw [dw9 (by decide) h2]; exact h2
      · rw [dw9 (by decide) h2]; exact h2
    · obtain ⟨j, hj⟩ : ∃ j, hidn M = j + 1 := ⟨hidn M - 1, by omega⟩
      have hne : M ≠ [] := fun z => by rw [z] at hH; exact hH rfl
      obtain ⟨x, r, hxr⟩ : ∃ x r, M = x :: r := by
        cases M with
        | nil => exact absurd rfl hne
        | cons x r => exact ⟨x, r, rfl⟩
      have hx0 : M.headD 0 = x := by rw [hxr]; rfl
      rw [hx0] at e
      have hx3 := h3 x (by rw [hxr]; exact .head _)
      rw [z3_iff] at hx3
      have hx9 : x ≠ 57 := fun z => hH (by
        unfold hidn
        rw [List.filter_eq_nil_iff.mpr, List.length_nil]
        intro y hy
        rw [e] at hy
        have : y = 57 := by
          rcases List.mem_append.mp hy with q | q
          · rw [List.eq_of_mem_replicate q, z]
          · exact of_decide_eq_true (List.all_eq_true.mp h2 y q)
        rw [this]; simp)
      have hd : M.head? = some x := by rw [hxr]; rfl
      unfold wh
      rw [hd]
      rcases hx3 with rfl | rfl | rfl
      · rw [if_pos rfl, e, dw_rep (by decide) h2]; exact h2
      · rw [if_neg (by decide), e, dw_rep (by decide) h2]; exact h2
      · exact absurd rfl hx9
def ledB (m sign : List Nat) : Option MP.Pic :=
  let ps := TL.spl [46] 0 [] m
  if m = [] ∨ ¬ (m.headD 0 ∈ Z3) ∨ ps.length > 2 ∨ (ps.length = 2 ∧ ps.getD 1 [] = []) then none else
  if ps.length = 2 ∧ allIn (ps.getD 1 []) [57] = false then none else
  if allIn (ps.headD []) Z7 = false then none else
  if (mk3 (ps.headD [])).take (hidn (mk3 (ps.headD []))) ≠ List.replicate (hidn (mk3 (ps.headD []))) ((mk3 (ps.headD [])).headD 0) ∨ allIn ((mk3 (ps.headD [])).drop (hidn (mk3 (ps.headD [])))) [57] = false then none else
  if (mk3 (ps.headD [])).length + (if ps.length = 2 then (ps.getD 1 []).length else 0) ≤ 18 then some (.ed m (mk3 (ps.headD [])).length (if ps.length = 2 then (ps.getD 1 []).length else 0) sign) else none
theorem take1 (m : List Nat) : (m.take 1 ∈ [[122], [42], [57]]) ↔ (m ≠ [] ∧ m.headD 0 ∈ Z3) := by
  cases m with
  | nil => simp
  | cons a r => rw [z3_iff]; simp
theorem edP_def (m sign : List Nat) : edP m sign = (if ¬ (m.take 1 ∈ [[122], [42], [57]]) ∨ allM 57 (wh (dig (cutW 46 m))) = false then none else
  if allM 57 ((cutR 46 m).getD []) = false ∨ cutR 46 m = some [] then none else
  if (dig (cutW 46 m)).length + ((cutR 46 m).getD []).length > 18 then none else
  if sign = [] ∧ allM 57 m = true then none else
  some (.ed m (dig (cutW 46 m)).length ((cutR 46 m).getD []).length sign)) := rfl
theorem not_true {b : Bool} (h : ¬ b = true) : b = false := by cases b <;> simp_all
/-- the law reads the marks as the program does -/
theorem led_eq (m sign : List Nat) (h9 : sign = [] → allM 57 m = true → m.length > 18 ∨ m = []) : ledB m sign = edP m sign := by
  rw [edP_def]
  have hok := ok_iff (cutW 46 m)
  by_cases hm : m.take 1 ∈ [[122], [42], [57]]
  rotate_left
  · rw [if_pos (.inl hm)]
    have : m = [] ∨ ¬ (m.headD 0 ∈ Z3) := by
      by_cases e : m = []
      · exact .inl e
      · exact .inr fun z => hm ((take1 m).mpr ⟨e, z⟩)
    unfold ledB
    exact if_pos (this.elim .inl fun z => .inr (.inl z))
  obtain ⟨hne, hz3⟩ := (take1 m).mp hm
  unfold ledB
  cases h : cutR 46 m with
  | none =>
    rw [spl_none h, (cut_none h).1] at *
    show (if m = [] ∨ ¬ (m.headD 0 ∈ Z3) ∨ (1 : Nat) > 2 ∨ ((1 : Nat) = 2 ∧ _) then none else if (1 : Nat) = 2 ∧ _ then none else if allIn m Z7 = false then none else if (mk3 m).take (hidn (mk3 m)) ≠ List.replicate (hidn (mk3 m)) ((mk3 m).headD 0) ∨ allIn ((mk3 m).drop (hidn (mk3 m))) [57] = false then none else if (mk3 m).length + 0 ≤ 18 then some (MP.Pic.ed m (mk3 m).length 0 sign) else none) = _
    rw [if_neg (fun z => z.elim hne fun z => z.elim (fun z => z hz3) fun z => z.elim (fun z => by omega) fun z => by omega), if_neg (fun z => by omega), Option.getD_none]
    by_cases ho : allM 57 (wh (dig m)) = true
    · obtain ⟨o1, o2, o3⟩ := hok.1 ho
      rw [if_neg (show ¬ allIn m Z7 = false by rw [o1]; simp), if_neg (fun z => z.elim (fun z => z o2) (fun z => by rw [allM_in, o3] at z; cases z))]
      rw [if_neg (show ¬ (¬ (m.take 1 ∈ [[122], [42], [57]]) ∨ allM 57 (wh (dig m)) = false) from fun z => z.elim (fun z => z hm) (fun z => by rw [ho] at z; cases z)), if_neg (show ¬ (allM 57 [] = false ∨ (none : Option (List Nat)) = some []) by simp [allM]), dig_mk o1]
      by_cases h18 : (mk3 m).length ≤ 18
      · rw [if_pos (by omega), if_neg (show ¬ ((mk3 m).length + ([] : List Nat).length > 18) by simp; omega), if_neg]
        · rfl
        · rintro ⟨z1, z2⟩
          have := h9 z1 z2
          have e : mk3 m = m := List.filter_eq_self.mpr fun x hx => by
            have := of_decide_eq_true (List.all_eq_true.mp z2 x hx)
            rw [this]; rfl
          rw [e] at h18
          rcases this with q | q
          · omega
          · exact hne q
      · rw [if_neg (by omega), if_pos (show (mk3 m).length + ([] : List Nat).length > 18 by simp; omega)]
    · rw [if_pos (show (¬ (m.take 1 ∈ [[122], [42], [57]]) ∨ allM 57 (wh (dig m)) = false) from .inr (not_true ho))]
      by_cases o1 : allIn m Z7 = true
      · rw [if_neg (show ¬ allIn m Z7 = false by rw [o1]; simp)]
        refine if_pos ?_
        by_cases o2 : (mk3 m).take (hidn (mk3 m)) = List.replicate (hidn (mk3 m)) ((mk3 m).headD 0)
        · refine .inr ?_
          rw [allM_in]
          exact not_true fun o3 => ho (hok.2 ⟨o1, o2, o3⟩)
        · exact .inl o2
      · exact if_pos (not_true o1)
  | some f =>
    rw [spl_some h]
    cases h2 : cutR 46 f with
    | some g =>
      rw [spl_some h2]
      have hb : allM 57 f = false := not_true fun z => by
        have := List.all_eq_true.mp z 46 (cutR_in h2)
        simp at this
      have e1 := spl_ne (c := 46) g
      rw [Option.getD_some]
      refine Eq.trans (if_pos (.inr (.inr (.inl (by simp only [List.length_cons]; omega))))) ?_
      by_cases ho : ¬ (m.take 1 ∈ [[122], [42], [57]]) ∨ allM 57 (wh (dig (cutW 46 m))) = false
      · rw [if_pos ho]
      · rw [if_neg ho, if_pos (.inl hb)]
    | none =>
      rw [spl_none h2, Option.getD_some]
      generalize cutW 46 m = w at *
      show (if m = [] ∨ ¬ (m.headD 0 ∈ Z3) ∨ (2 : Nat) > 2 ∨ ((2 : Nat) = 2 ∧ f = []) then none else if (2 : Nat) = 2 ∧ allIn f [57] = false then none else if allIn w Z7 = false then none else if (mk3 w).take (hidn (mk3 w)) ≠ List.replicate (hidn (mk3 w)) ((mk3 w).headD 0) ∨ allIn ((mk3 w).drop (hidn (mk3 w))) [57] = false then none else if (mk3 w).length + f.length ≤ 18 then some (MP.Pic.ed m (mk3 w).length f.length sign) else none) = _
      by_cases hf : f = []
      · subst hf
        rw [if_pos (.inr (.inr (.inr ⟨rfl, rfl⟩)))]
        by_cases ho : ¬ (m.take 1 ∈ [[122], [42], [57]]) ∨ allM 57 (wh (dig w)) = false
        · rw [if_pos ho]
        · rw [if_neg ho, if_pos (.inr rfl)]
      · rw [if_neg (fun z => z.elim hne fun z => z.elim (fun z => z hz3) fun z => z.elim (fun z => by omega) fun z => hf z.2), allM_in]
        by_cases hfa : allM 57 f = true
        · rw [if_neg (show ¬ ((2 : Nat) = 2 ∧ allM 57 f = false) from fun z => by rw [hfa] at z; cases z.2)]
          by_cases ho : allM 57 (wh (dig w)) = true
          · obtain ⟨o1, o2, o3⟩ := hok.1 ho
            rw [if_neg (show ¬ allIn w Z7 = false by rw [o1]; simp), if_neg (fun z => z.elim (fun z => z o2) (fun z => by rw [allM_in, o3] at z; cases z))]
            rw [if_neg (show ¬ (¬ (m.take 1 ∈ [[122], [42], [57]]) ∨ allM 57 (wh (dig w)) = false) from fun z => z.elim (fun z => z hm) (fun z => by rw [ho] at z; cases z)), if_neg (show ¬ (allM 57 f = false ∨ some f = some []) from fun z => z.elim (fun z => by rw [hfa] at z; cases z) (fun z => hf (by simpa using z))), dig_mk o1]
            by_cases h18 : (mk3 w).length + f.length ≤ 18
            · rw [if_pos h18, if_neg (show ¬ ((mk3 w).length + f.length > 18) by omega), if_neg]
              rintro ⟨z1, z2⟩
              have := List.all_eq_true.mp z2 46 (cutR_in h)
              simp at this
            · rw [if_neg h18, if_pos (show (mk3 w).length + f.length > 18 by omega)]
          · rw [if_pos (show (¬ (m.take 1 ∈ [[122], [42], [57]]) ∨ allM 57 (wh (dig w)) = false) from .inr (not_true ho))]
            by_cases o1 : allIn w Z7 = true
            · rw [if_neg (show ¬ allIn w Z7 = false by rw [o1]; simp)]
              refine if_pos ?_
              by_cases o2 : (mk3 w).take (hidn (mk3 w)) = List.replicate (hidn (mk3 w)) ((mk3 w).headD 0)
              · refine .inr ?_
                rw [allM_in]
                exact not_true fun o3 => ho (hok.2 ⟨o1, o2, o3⟩)
              · exact .inl o2
            · exact if_pos (not_true o1)
        · rw [if_pos ⟨rfl, not_true hfa⟩]
          by_cases ho : ¬ (m.take 1 ∈ [[122], [42], [57]]) ∨ allM 57 (wh (dig w)) = false
          · rw [if_pos ho]
          · rw [if_neg ho, if_pos (.inl (not_true hfa))]
end MR
namespace MR
open PySem PySem.Spec PyProof.Rows L2 MW MT
open SX (S)
theorem lawOut_len (l : List Nat) : (lawOut l).length ≤ 80 := by
  unfold lawOut
  cases spread l with
  | none => exact Nat.zero_le _
  | some row =>
    show (if row.length ≤ 80 then row else []).length ≤ 80
    by_cases h : row.length ≤ 80
    · rw [if_pos h]; exact h
    · rw [if_neg h]; exact Nat.zero_le _
theorem readPic_out (l : List Nat) : readPic l = if lawOut l = [] then none else rowP (lawOut l) := by
  unfold readPic lawOut
  cases spread l with
  | none => rfl
  | some row =>
    show rowP row = if (if row.length ≤ 80 then row else []) = [] then none else rowP (if row.length ≤ 80 then row else [])
    by_cases h : row.length ≤ 80
    · rw [if_pos h]
      by_cases h2 : row = []
      · rw [if_pos h2, h2]; rfl
      · rw [if_neg h2]
    · rw [if_neg h, if_pos rfl]
      unfold rowP
      rw [if_neg (fun z => h z.2)]
end MR
namespace MR
open PySem PySem.Spec PyProof.Rows L2 MW MT
open SX (S)
theorem at_Sn {ps : List (List Nat)} {i : Nat} {w : List Nat} (h : ps[i]? = some w) : atI (ps.map fun a => V.str (S a)) (i : Int) = some (.str (S w)) := atI_nat (by rw [List.getElem?_map, h]; rfl)
theorem last_S {ps : List (List Nat)} (h : 1 ≤ ps.length) : atI (ps.map fun a => V.str (S a)) (-1 : Int) = some (.str (S ((ps.getLast?).getD []))) := by
  cases ps with
  | nil => exact absurd h (by decide)
  | cons c r =>
    have e : ixN (((c :: r).map fun a => V.str (S a))).length (-1) = some r.length := by
      unfold ixN
      rw [if_neg (by decide)]
      rw [List.length_map, List.length_cons]
      first | (rw [if_pos (by omega)]; congr 1; omega) | (simp; omega)
    unfold atI
    rw [e]
    show ((c :: r).map fun a => V.str (S a))[r.length]? = _
    have e2 : (c :: r).getLast? = (c :: r)[(c :: r).length - 1]? := List.getLast?_eq_getElem?
    rw [show (c :: r).length - 1 = r.length from rfl] at e2
    rw [List.getElem?_map, ← e2]
    simp [List.getLast?_cons]
end MR
namespace MR
open PySem PySem.Spec PyProof.Rows L2 MW MT
open SX (S)
theorem bad_none {m sg : List Nat} {x : Nat} (hx : x ∈ m) (h : x ≠ 46) (h7 : ¬ x ∈ Z7) : edP m sg = none := by
  rw [edP_def]
  by_cases ho : allM 57 (wh (dig (cutW 46 m))) = true
  rotate_left
  · exact if_pos (.inr (not_true ho))
  have hA := ((ok_iff _).1 ho).1
  have hxA : ¬ x ∈ cutW 46 m := fun z => h7 (of_decide_eq_true (List.all_eq_true.mp hA x z))
  by_cases h1 : ¬ (m.take 1 ∈ [[122], [42], [57]]) ∨ allM 57 (wh (dig (cutW 46 m))) = false
  · exact if_pos h1
  rw [if_neg h1]
  refine if_pos (.inl ?_)
  cases e : cutR 46 m with
  | none => exact absurd (by rw [(cut_none e).1]; exact hx) hxA
  | some r =>
    have hm := cut_some e
    have : x ∈ cutW 46 m ++ 46 :: r := by rw [← hm]; exact hx
    rcases List.mem_append.mp this with z | z
    · exact absurd z hxA
    · rcases List.mem_cons.mp z with z | z
      · exact absurd z h
      · refine not_true fun q => h7 ?_
        have q := of_decide_eq_true (List.all_eq_true.mp q x z)
        rw [q]; decide
theorem ledB_bad {m sg : List Nat} (h : m = [] ∨ ¬ (m.headD 0 ∈ Z3)) : ledB m sg = none := by
  unfold ledB
  exact if_pos (h.elim .inl fun z => .inr (.inl z))
def isL2 (l : List Nat) : Prop := l.drop (l.length - 2) = [99, 114] ∨ l.drop (l.length - 2) = [100, 98]
instance (l : List Nat) : Decidable (isL2 l) := by unfold isL2; infer_instance
def lpart (l : List Nat) : List Nat × List Nat :=
  if isL2 l then (l.take (l.length - 2), l.drop (l.length - 2))
  else if l.headD 0 = 45 ∨ l.headD 0 = 43 then (l.drop 1, [l.headD 0])
  else if last1 l = 45 ∨ last1 l = 43 then (l.take (l.length - 1), [46, last1 l])
  else (l, [])
theorem two_shape {l : List Nat} (h : isL2 l) : ∃ q a b, l = q ++ [a, b] ∧ (a = 99 ∨ a = 100) ∧ (b = 114 ∨ b = 98) ∧ l.take (l.length - 2) = q ∧ l.drop (l.length - 2) = [a, b] := by
  have e := (List.take_append_drop (l.length - 2) l).symm
  rcases h with h | h
  · rw [h] at e
    exact ⟨_, 99, 114, e, .inl rfl, .inl rfl, rfl, h⟩
  · rw [h] at e
    exact ⟨_, 100, 98, e, .inr rfl, .inr rfl, rfl, h⟩
theorem num_nines {l : List Nat} (h : numP l = none) (ha : allM 57 l = true) : l.length > 18 ∨ l = [] := by
  by_cases hl : l = []
  · exact .inr hl
  refine .inl ?_
  refine Classical.byContradiction fun h18 => ?_
  have hp := List.length_pos_iff.mpr hl
  have n57 : ∀ x ∈ l, x = 57 := fun x hx => of_decide_eq_true (List.all_eq_true.mp ha x hx)
  have e : l.head? ≠ some 115 := fun z => by
    have := n57 115 (List.mem_of_head? z)
    cases this
  have ec : cutR 118 l = none := by
    cases e2 : cutR 118 l with
    | none => rfl
    | some r => exact absurd (n57 118 (cutR_in e2)) (by decide)
  rw [numB, decide_eq_false e] at h
  have h : (if cutR 118 l = some [] then none else
    if allM 57 (cutW 118 l ++ (cutR 118 l).getD []) = true ∧ 1 ≤ (cutW 118 l ++ (cutR 118 l).getD []).length ∧ (cutW 118 l ++ (cutR 118 l).getD []).length ≤ 18
    then some (MP.Pic.num false (cutW 118 l).length ((cutR 118 l).getD []).length) else none) = none := h
  rw [ec, if_neg (by simp), (cut_none ec).1, Option.getD_none, List.append_nil, if_pos ⟨ha, hp, by omega⟩] at h
  cases h
theorem part_eq (l : List Nat) (h1 : 1 ≤ l.length) (hn : numP l = none) : ledB (lpart l).1 (lpart l).2 = edP (partP l).1 (partP l).2 := by
  by_cases h2 : isL2 l
  · have el : lpart l = (l.take (l.length - 2), l.drop (l.length - 2)) := if_pos h2
    obtain ⟨q, a, b, e, ha, hb, et, ed⟩ := two_shape h2
    have hl1 : last1 l = b := by unfold last1; rw [e]; simp
    by_cases hh : l.headD 0 = 45 ∨ l.headD 0 = 43
    · have ep : partP l = (l.drop 1, [l.headD 0]) := if_pos hh
      rw [el, ep]
      have hq : q ≠ [] := fun z => by
        rw [e, z] at hh
        have : a = 45 ∨ a = 43 := hh
        omega
      obtain ⟨c, r, rfl⟩ : ∃ c r, q = c :: r := by
        cases q with
        | nil => exact absurd rfl hq
        | cons c r => exact ⟨c, r, rfl⟩
      have hc : l.headD 0 = c := by rw [e]; rfl
      have ea : a ∈ l.drop 1 := by rw [e]; simp
      show ledB (l.take (l.length - 2)) _ = edP (l.drop 1) _
      rw [bad_none (x := a) ea (by omega) (by rcases ha with rfl | rfl <;> decide), et]
      refine ledB_bad (.inr ?_)
      show ¬ c ∈ Z3
      rw [hc] at hh
      rcases hh with rfl | rfl <;> decide
    · have ep : partP l = (l.take (l.length - 2), l.drop (l.length - 2)) := by
        unfold partP
        rw [if_neg hh, if_neg (by rw [hl1]; omega)]
        exact if_pos h2
      rw [el, ep]
      exact led_eq _ _ fun z => by
        have z : l.drop (l.length - 2) = [] := z
        rw [ed] at z; cases z
  · by_cases hh : l.headD 0 = 45 ∨ l.headD 0 = 43
    · have el : lpart l = (l.drop 1, [l.headD 0]) := by unfold lpart; rw [if_neg h2, if_pos hh]
      have ep : partP l = (l.drop 1, [l.headD 0]) := if_pos hh
      rw [el, ep]
      exact led_eq _ _ fun z => by cases z
    · by_cases hl : last1 l = 45 ∨ last1 l = 43
      · have el : lpart l = (l.take (l.length - 1), [46, last1 l]) := by unfold lpart; rw [if_neg h2, if_neg hh, if_pos hl]
        have ep : partP l = (l.take (l.length - 1), [46, last1 l]) := by unfold partP; rw [if_neg hh, if_pos hl]
        rw [el, ep]
        exact led_eq _ _ fun z => by cases z
      · have el : lpart l = (l, []) := by unfold lpart; rw [if_neg h2, if_neg hh, if_neg hl]
        have ep : partP l = (l, []) := by
          unfold partP
          rw [if_neg hh, if_neg hl]
          exact if_neg h2
        rw [el, ep]
        exact led_eq _ _ fun _ z => num_nines hn z
end MR
namespace MR
open PySem PySem.Spec PyProof.Rows L2 MW MT
open SX (S)
theorem lpart_len (l : List Nat) : (lpart l).1.length ≤ l.length := by
  unfold lpart
  split
  · show (l.take _).length ≤ _; rw [List.length_take]; omega
  · split
    · show (l.drop 1).length ≤ _; rw [List.length_drop]; omega
    · split
      · show (l.take _).length ≤ _; rw [List.length_take]; omega
      · exact Nat.le_refl _
theorem take_1 {l : List Nat} (h : 1 ≤ l.length) : l.take 1 = [l.headD 0] := by
  cases l with
  | nil => exact absurd h (by decide)
  | cons a r => rfl
theorem drop_1 {l : List Nat} (h : 1 ≤ l.length) : l.drop (l.length - 1) = [last1 l] := by
  have hne : l ≠ [] := fun z => by rw [z] at h; exact absurd h (by decide)
  have e := List.dropLast_concat_getLast hne
  have e2 : last1 l = l.getLast hne := by unfold last1; rw [List.getLast?_eq_some_getLast hne]; rfl
  rw [e2]
  have hd : l.dropLast.length = l.length - 1 := List.length_dropLast
  have : (l.dropLast ++ [l.getLast hne]).drop l.dropLast.length = [l.getLast hne] := List.drop_left
  rw [e, hd] at this
  exact this
theorem l2_take {l : List Nat} (h : isL2 l) : 2 ≤ l.length := by
  obtain ⟨q, a, b, e, _⟩ := two_shape h
  rw [e, List.length_append]; simp
end MR
namespace MR
open PySem PySem.Spec PyProof.Rows L2 MW MT
open SX (S)
theorem hidn_le (M : List Nat) : hidn M ≤ M.length := List.length_filter_le _ _
theorem mulM {M : List Nat} {H : Hp} {Q : VK} (h : M.length ≤ 1000) (q : Q (.str (S (List.replicate (hidn M) (M.headD 0)))) H) : WP.rMulS (.str (S (M.take 1))) (.int (hidn M : Int)) H Q := by
  cases M with
  | nil => exact ⟨S [], 0, rfl, rfl, by unfold MulOk; exact ⟨by decide, fun z => absurd (by decide) z, fun z => absurd (by decide) z⟩, q⟩
  | cons x r =>
    have := hidn_le (x :: r)
    exact WP.mulS (by omega) (by omega) (by rw [Int.toNat_natCast]; exact q)
theorem mk3_take {a : List Nat} {i c : Nat} (h : a[i]? = some c) : mk3 (a.take (i + 1)) = mk3 (a.take i) ++ (if c ∈ Z3 then [c] else []) := by
  have et : a.take (i + 1) = a.take i ++ [c] := by rw [List.take_succ, h]; rfl
  rw [et]
  unfold mk3
  rw [List.filter_append]
  by_cases hc : c ∈ Z3
  · rw [if_pos hc]; simp [hc]
  · rw [if_neg hc]; simp [hc]
def n57 (a : List Nat) : List Nat := a.filter (fun x => !decide (x = 57))
theorem n57_take {a : List Nat} {i c : Nat} (h : a[i]? = some c) : n57 (a.take (i + 1)) = n57 (a.take i) ++ (if c = 57 then [] else [c]) := by
  have et : a.take (i + 1) = a.take i ++ [c] := by rw [List.take_succ, h]; rfl
  rw [et]
  unfold n57
  rw [List.filter_append]
  by_cases hc : c = 57
  · rw [if_pos hc]; simp [hc]
  · rw [if_neg hc]; simp [hc]
theorem n57_len (a : List Nat) : (n57 a).length = hidn a := rfl
theorem n57_le (a : List Nat) : (n57 a).length ≤ a.length := List.length_filter_le _ _
theorem mk3_le (a : List Nat) : (mk3 a).length ≤ a.length := List.length_filter_le _ _
end MR
namespace MR
open PySem PySem.Spec PyProof.Rows L2 MW MT
open SX (S)
theorem nm {n : Nat} (h : n ≤ 100) : (TL.numL n).length ≤ 3 ∧ ∀ c ∈ TL.numL n, c < 128 := ⟨TL.numL_len (k := 3) (by decide) (by omega), fun c hc => by
  have := TL.numL_digits _ c hc
  omega⟩
theorem lt_app {a b : List Nat} (ha : ∀ c ∈ a, c < 128) (hb : ∀ c ∈ b, c < 128) : ∀ c ∈ a ++ b, c < 128 := fun c hc => (List.mem_append.mp hc).elim (ha c) (hb c)
end MR
namespace MR
open PySem PySem.Spec PyProof.Rows L2 MW MT
open SX (S)
theorem tw_at : ∀ {q : List Nat} {d : Nat}, d < (q.takeWhile fg).length → ∃ x, q[d]? = some x ∧ fg x = true
  | [], _, h => absurd h (by simp)
  | x :: r, d, h => by
    by_cases hx : fg x = true
    · cases d with
      | zero => exact ⟨x, rfl, hx⟩
      | succ d =>
        rw [List.takeWhile_cons_of_pos hx, List.length_cons] at h
        obtain ⟨y, h1, h2⟩ := tw_at (q := r) (d := d) (by omega)
        exact ⟨y, h1, h2⟩
    · rw [List.takeWhile_cons_of_neg hx] at h
      exact absurd h (by simp)
theorem tw_end : ∀ {q : List Nat} {x : Nat}, q[(q.takeWhile fg).length]? = some x → fg x = false
  | [], _, h => by simp at h
  | y :: r, x, h => by
    by_cases hy : fg y = true
    · rw [List.takeWhile_cons_of_pos hy, List.length_cons] at h
      exact tw_end (q := r) h
    · rw [List.takeWhile_cons_of_neg hy] at h
      have : y = x := by simpa using h
      rw [← this]
      exact not_true hy
theorem tw_le (q : List Nat) : (q.takeWhile fg).length ≤ q.length := (List.takeWhile_sublist _).length_le
theorem dn_fig {q : List Nat} : ∀ c ∈ q.take (dn q), fg c = true := fun c hc => by
  obtain ⟨i, hi, e⟩ := List.mem_iff_getElem.mp hc
  have hl : i < dn q := by rw [List.length_take] at hi; omega
  obtain ⟨x, h1, h2⟩ := tw_at (q := q) (d := i) (Nat.lt_of_lt_of_le hl (Nat.min_le_right _ _))
  have h3 : (q.take (dn q))[i]? = some c := by rw [List.getElem?_eq_getElem hi, e]
  rw [List.getElem?_take, if_pos hl, h1] at h3
  rw [← Option.some.inj h3]
  exact h2
theorem dn_len (q : List Nat) : (q.take (dn q)).length = dn q := by
  rw [List.length_take]
  have := tw_le q
  have : dn q ≤ (q.takeWhile fg).length := Nat.min_le_right _ _
  omega
theorem dn_figs {q : List Nat} (h : q.take (dn q) ≠ []) : figs (q.take (dn q)) = true := by
  unfold figs
  rw [decide_eq_false h]
  exact List.all_eq_true.mpr fun c hc => dn_fig c hc
theorem fg_iff (c : Nat) : decide (c ∈ FIG) = fg c := rfl
end MR
namespace MR
open PySem PySem.Spec PyProof.Rows L2 MW MT
open SX (S)
theorem spread_mem : ∀ (n : Nat) (l row : List Nat), l.length ≤ n → spread l = some row → ∀ c ∈ row, c ∈ l
  | _, [], row, _, h, c, hc => by rw [spread_nil] at h; cases h; exact hc
  | 0, x :: r, _, hn, _, _, _ => absurd hn (by simp)
  | n + 1, x :: r, row, hn, h, c, hc => by
    rw [spread_cons] at h
    cases e : cnt r with
    | none => rw [e] at h; cases h
    | some ck =>
      obtain ⟨m, k⟩ := ck
      rw [e] at h
      have h : (spread (r.drop k)).map (List.replicate m x ++ ·) = some row := h
      cases e2 : spread (r.drop k) with
      | none => rw [e2] at h; cases h
      | some q =>
        rw [e2] at h
        cases h
        rcases List.mem_append.mp hc with z | z
        · rw [List.eq_of_mem_replicate z]; exact .head _
        · exact .tail _ (List.mem_of_mem_drop (spread_mem n (r.drop k) q (by rw [List.length_drop]; simp at hn; omega) e2 c z))
theorem lawOut_lt {l : List Nat} (h : ∀ c ∈ l, c < 128) : ∀ c ∈ lawOut l, c < 128 := fun c hc => by
  unfold lawOut at hc
  cases e : spread l with
  | none => rw [e] at hc; cases hc
  | some row =>
    rw [e] at hc
    have hc : c ∈ (if row.length ≤ 80 then row else []) := hc
    by_cases h8 : row.length ≤ 80
    · rw [if_pos h8] at hc
      exact h c (spread_mem l.length l row (Nat.le_refl _) e c hc)
    · rw [if_neg h8] at hc; cases hc
end MR
namespace MR
open PySem PySem.Spec PyProof.Rows L2 MW MT
open SX (S)
def Res.ds : Res → List PyData
  | .txt n => [.str (S [116, 101, 120, 116]), .int (n : Int)]
  | .pic (.num sg w f) => [.str (S [110, 117, 109, 98, 101, 114]), .bool sg, .int (w : Int), .int (f : Int)]
  | .pic (.ed b w f s) => [.str (S [101, 100, 105, 116, 101, 100]), .str (S b), .int (w : Int), .int (f : Int), .str (S s)]
theorem Res.dp {K : PySem.W.Frag} {H : Hp} : ∀ r : Res, DpAll K H r.vs r.ds
  | .txt _ => .cons (.str _) (.cons (.int _) .nil)
  | .pic (.num _ _ _) => .cons (.str _) (.cons (.bl _) (.cons (.int _) (.cons (.int _) .nil)))
  | .pic (.ed _ _ _ _) => .cons (.str _) (.cons (.str _) (.cons (.int _) (.cons (.int _) (.cons (.str _) .nil))))
def Res.Lt : Res → Prop
  | .txt _ => True
  | .pic (.num _ _ _) => True
  | .pic (.ed b _ _ s) => (∀ c ∈ b, c < 128) ∧ ∀ c ∈ s, c < 128
theorem and2 {a b : Bool} (h : a = true) (k : b = true) : (a && b) = true := Bool.and_eq_true_iff.mpr ⟨h, k⟩
theorem Res.lay : ∀ {r : Res}, r.Lt → (PyData.tuple r.ds).canLay0 = true
  | .txt _, _ => and2 (WP.sok_S (l := [116, 101, 120, 116]) (by decide)) rfl
  | .pic (.num _ _ _), _ => and2 (WP.sok_S (l := [110, 117, 109, 98, 101, 114]) (by decide)) rfl
  | .pic (.ed _ _ _ _), h => and2 (WP.sok_S (l := [101, 100, 105, 116, 101, 100]) (by decide)) (and2 (WP.sok_S fun c hc => Nat.lt_trans (h.1 c hc) (by decide)) (and2 rfl (and2 rfl (and2 (WP.sok_S fun c hc => Nat.lt_trans (h.2 c hc) (by decide)) rfl))))
theorem Res.sh : ∀ {r : Res}, r.Lt → SeqAt.shaped (.tuple r.ds) = true
  | .txt _, h => and2 (Res.lay h) rfl
  | .pic (.num _ _ _), h => and2 (Res.lay h) rfl
  | .pic (.ed _ _ _ _), h => and2 (Res.lay h) rfl
theorem Res.ne (r : Res) (x : Str) : PyData.eqv (.tuple r.ds) (.str x) = false := by
  first | rfl | (cases r <;> rfl) | (unfold PyData.eqv; rfl)
theorem not_ed (A B : Prop) [Decidable A] [Decidable B] (sg : Bool) (x y : Nat) (b : List Nat) (w f : Nat) (s : List Nat) : (if A then none else if B then some (MP.Pic.num sg x y) else none) ≠ some (.ed b w f s) := by
  by_cases a : A
  · rw [if_pos a]; simp
  · rw [if_neg a]
    by_cases b : B
    · rw [if_pos b]; simp
    · rw [if_neg b]; simp
theorem row_lt {row : List Nat} {r : Res} (hl : ∀ c ∈ row, c < 128) (h : rowP row = some r) : r.Lt := by
  unfold rowP at h
  by_cases h1 : 1 ≤ row.length ∧ row.length ≤ 80
  · rw [if_pos h1] at h
    by_cases h2 : allM 120 row = true
    · rw [if_pos h2] at h
      cases h
      exact trivial
    · rw [if_neg h2] at h
      cases e : numP row with
      | some p =>
        rw [e] at h
        cases h
        rw [numB] at e
        cases p with
        | num _ _ _ => exact trivial
        | ed _ _ _ _ =>
          exact absurd e (not_ed _ _ _ _ _ _ _ _ _)
      | none =>
        rw [e] at h
        have h : (edP (partP row).1 (partP row).2).map Res.pic = some r := h
        have hp : (∀ c ∈ (partP row).1, c < 128) ∧ ∀ c ∈ (partP row).2, c < 128 := by
          unfold partP
          split
          · exact ⟨fun c hc => hl c (List.mem_of_mem_drop hc), fun c hc => by rw [List.mem_singleton.mp hc]; omega⟩
          · split
            · refine ⟨fun c hc => hl c (List.mem_of_mem_take hc), fun c hc => ?_⟩
              rcases List.mem_cons.mp hc with z | z
              · omega
              · rw [List.mem_singleton.mp z]; omega
            · split
              · exact ⟨fun c hc => hl c (List.mem_of_mem_take hc), fun c hc => hl c (List.mem_of_mem_drop hc)⟩
              · exact ⟨hl, fun c hc => by cases hc⟩
        rw [edP_def] at h
        split at h
        · cases h
        · split at h
          · cases h
          · split at h
            · cases h
            · split at h
              · cases h
              · cases h
                exact hp
  · rw [if_neg h1] at h
    cases h
theorem read_lt {l : List Nat} {r : Res} (hl : ∀ c ∈ l, c < 128) (h : readPic l = some r) : r.Lt := by
  rw [readPic_out] at h
  split at h
  · cases h
  · exact row_lt (lawOut_lt hl) h
end MR

namespace MR
open PySem PySem.Spec PyProof.Rows L2 MW MT
open SX (S)
/-! ### the canonical text -/
def sgm (s : List Nat) : List Nat := s.filter (fun x => !decide (x = 46))
theorem sgm_len (s : List Nat) : (sgm s).length ≤ s.length := List.length_filter_le _ _
def numT (sg : Bool) (w f : Nat) : List Nat := (if sg = true then [115] else []) ++ ((if w = 0 then [] else [57, 40] ++ TL.numL w ++ [41]) ++ (if f = 0 then [] else [118, 57, 40] ++ TL.numL f ++ [41]))
theorem numT_len (sg : Bool) {w f : Nat} (hw : w ≤ 100) (hf : f ≤ 100) : (numT sg w f).length ≤ 20 := by
  unfold numT
  have h1 := (nm hw).1
  have h2 := (nm hf).1
  split <;> split <;> split <;> simp <;> omega
def picT : Res → List Nat
  | .txt n => [120, 40] ++ TL.numL n ++ [41]
  | .pic (.num sg w f) => numT sg w f
  | .pic (.ed b _ _ s) => if s = [45] ∨ s = [43] then s ++ b else b ++ sgm s
end MR
namespace MR
def sizT : Res → Nat
  | .txt n => n
  | .pic (.num sg w f) => w + f + (if sg = true then 1 else 0)
  | .pic (.ed b _ _ s) => b.length + (sgm s).length
end MR
namespace MR
open PySem PySem.Spec PyProof.Rows L2 MW MT
open SX (S)
def isBl : V → Bool
  | .bl _ => true
  | _ => false
def inI : V → Int
  | .int i => i
  | _ => 0
def coS : V → List Nat
  | .str z => z.cps.toList
  | _ => []
theorem coS_S (l : List Nat) : coS (.str (S l)) = l := rfl
def edEq (b : List Nat) (i j : Int) (s : List Nat) : Bool := match edP b s with
  | some (.ed _ w f _) => decide (i = (w : Int)) && decide (j = (f : Int))
  | _ => false
theorem eqv5 {x y z : Str} {i j i' j' : Int} : PyData.eqv (.tuple [.str x, .str y, .int i, .int j, .str z]) (.tuple [.str x, .str y, .int i', .int j', .str z]) = (decide (i = i') && decide (j = j')) := by
  show (PyData.eqv (.str x) (.str x) && (PyData.eqv (.str y) (.str y) && (PyData.eqv (.int i) (.int i') && (PyData.eqv (.int j) (.int j') && (PyData.eqv (.str z) (.str z) && true))))) = _
  have e : ∀ a : Str, PyData.eqv (.str a) (.str a) = true := fun a => by
    show (a == a) = true
    simp
  have e2 : ∀ a b : Int, PyData.eqv (.int a) (.int b) = decide (a = b) := fun a b => by
    show (a == b) = _
    rfl
  rw [e, e, e, e2, e2, Bool.true_and, Bool.true_and, Bool.true_and, Bool.and_true]
theorem eqvN {ds : List PyData} : PyData.eqv (.tuple ds) .none = false := by
  first | rfl | (unfold PyData.eqv; rfl)
end MR
namespace MR
open PySem PySem.Spec PyProof.Rows L2 MW MT
open SX (S)
theorem isBlW {K : PySem.W.Frag} {H : Hp} {v : V} {Q : VK} (h : MW.Wd K H v) (q : Q (.bl (isBl v)) H) : rIsi K [v, .ty "bool"] H Q := by
  cases h with
  | str hl ok => exact WP.isN (.base (.str _)) q
  | non => exact WP.isN (.base .non) q
  | int i => exact WP.isN (.base (.int i)) q
  | bl b => exact WP.isY (.base (.bl b)) q
  | tup h => exact WP.isN (WP.tyT h) q
  | lst h => exact WP.isN (MW.tyL h) q
end MR
namespace MR
theorem edP_form {m sg : List Nat} {p : MP.Pic} (h : edP m sg = some p) : ∃ w f, p = .ed m w f sg := by
  rw [edP_def] at h
  split at h
  · cases h
  · split at h
    · cases h
    · split at h
      · cases h
      · split at h
        · cases h
        · exact ⟨_, _, (Option.some.inj h).symm⟩
end MR
namespace MR
/-- the parts are small -/
def Sm : Res → Prop
  | .txt n => n ≤ 100
  | .pic (.num _ w f) => w ≤ 100 ∧ f ≤ 100
  | .pic (.ed b _ _ s) => b.length ≤ 1000 ∧ s ∈ MP.signs
end MR
namespace MR
open PySem PySem.Spec PyProof.Rows L2 MW MT
open SX (S)
/-- a value that is no tuple -/
inductive NoT (K : PySem.W.Frag) (H : Hp) : V → Prop
  | str {l : List Nat} : NoT K H (.str (S l))
  | non : NoT K H .non
  | int (i : Int) : NoT K H (.int i)
  | lst {p : Addr} {xs : List V} (h : SqL K H p xs) : NoT K H (.ref p)
theorem NoT.isTup {K : PySem.W.Frag} {H : Hp} {v : V} {Q : VK} (h : NoT K H v) (q : Q (.bl false) H) : rIsi K [v, .ty "tuple"] H Q := by
  cases h with
  | str => exact WP.isN (.base (.str _)) q
  | non => exact WP.isN (.base .non) q
  | int i => exact WP.isN (.base (.int i)) q
  | lst h => exact WP.isN (MW.tyL h) q
end MR
namespace MR
open PySem PySem.Spec PyProof.Rows L2 MW MT
theorem Res.len : ∀ r : Res, 2 ≤ r.vs.length ∧ r.vs.length ≤ 5
  | .txt _ => ⟨by show 2 ≤ 2; decide, by show 2 ≤ 5; decide⟩
  | .pic (.num _ _ _) => ⟨by show 2 ≤ 4; decide, by show 4 ≤ 5; decide⟩
  | .pic (.ed _ _ _ _) => ⟨by show 2 ≤ 5; decide, by show 5 ≤ 5; decide⟩
theorem at_V {ls : List V} {i : Int} (h0 : 0 ≤ i) (h1 : i < (ls.length : Int)) : ∃ a ∈ ls, atI ls i = some a := by
  obtain ⟨j, rfl⟩ : ∃ j : Nat, i = (j : Int) := ⟨i.toNat, by omega⟩
  have hj : j < ls.length := by omega
  exact ⟨ls[j], List.getElem_mem hj, atI_nat (List.getElem?_eq_getElem hj)⟩
end MR
namespace MR
open PySem PySem.Spec PyProof.Rows L2 MW MT
open SX (S)
/-- the bodies that the law draws, and the odd texts that it puts in -/
def BODS : List (List Nat) := (MP.bodies ++ MP.bodies.flatMap (fun b => [[57], [57, 57], [57, 57, 57]].map fun f => b ++ [46] ++ f)) ++ [[], [122, 57], [57, 57], [57, 46, 57], [45], [46, 45], [99, 114], [120], [116, 101, 120, 116], [110, 117, 109, 98, 101, 114], [101, 100, 105, 116, 101, 100]]
def GoodB (xs : List V) : Prop := ∀ z : Str, xs[1]? = some (.str z) → ∃ l ∈ BODS, z = S l
end MR

namespace MF
open PySem PySem.Spec PyProof.Rows L2 MP
/-! ### fields read back -/
def siz (p : Pic) : Nat := MR.sizT (.pic p)
def lk : List Nat → List Nat → List Nat
  | m :: ms, c :: cs => if isD m = true then (if 48 ≤ c ∧ c ≤ 57 then c else 48) :: lk ms cs else lk ms cs
  | _, _ => []
theorem lk_len : ∀ ms cs : List Nat, ms.length = cs.length → (lk ms cs).length = (ms.filter isD).length
  | [], [], _ => rfl
  | m :: ms, c :: cs, h => by
    have ih := lk_len ms cs (by simpa using h)
    unfold lk
    by_cases d : isD m = true
    · rw [if_pos d, List.filter_cons, if_pos d, List.length_cons, List.length_cons, ih]
    · rw [if_neg d, List.filter_cons, if_neg d, ih]
theorem lk_dig : ∀ ms cs : List Nat, ∀ c ∈ lk ms cs, 48 ≤ c ∧ c ≤ 57
  | [], _, c, h => by unfold lk at h; cases h
  | _ :: _, [], c, h => by unfold lk at h; cases h
  | m :: ms, x :: cs, c, h => by
    unfold lk at h
    by_cases d : isD m = true
    · rw [if_pos d] at h
      rcases List.mem_cons.mp h with e | e
      · rw [e]
        split
        · assumption
        · decide
      · exact lk_dig ms cs c e
    · rw [if_neg d] at h
      exact lk_dig ms cs c h
theorem lk_body (fill : Nat) (hf : fill < 48) : ∀ (ms : List Nat) (hid : Bool) (fs : List Nat), (∀ c ∈ fs, 48 ≤ c ∧ c ≤ 57) → (ms.filter isD).length = fs.length → lk ms (bodyF fill hid ms fs) = fs ∧ (bodyF fill hid ms fs).length = ms.length
  | [], hid, fs, _, h => by
    have : fs = [] := List.length_eq_zero_iff.mp h.symm
    subst this
    unfold bodyF
    exact ⟨rfl, rfl⟩
  | m :: ms, hid, fs, hd, h => by
    by_cases d : isD m = true
    · rw [List.filter_cons, if_pos d, List.length_cons] at h
      match fs, h, hd with
      | [], h, _ => cases h
      | c :: cs, h, hd =>
        rw [bodyF_D d]
        have ih := lk_body fill hf ms (hid && (!(m == 57)) && (c == 48)) cs (fun c hc => hd c (.tail _ hc)) (by simpa using h)
        have hc := hd c (.head _)
        refine ⟨?_, by rw [List.length_cons, ih.2, List.length_cons]⟩
        unfold lk
        rw [if_pos d, ih.1]
        congr 1
        cases e : (hid && (!(m == 57)) && (c == 48)) with
        | false => rw [if_neg Bool.false_ne_true, if_pos hc]
        | true =>
          rw [if_pos rfl, if_neg (by omega)]
          have : (c == 48) = true := by
            rw [Bool.and_eq_true] at e; exact e.2
          exact (eq_of_beq this).symm
    · rw [List.filter_cons, if_neg d] at h
      by_cases h46 : m = 46
      · subst h46
        rw [bodyF_P]
        have ih := lk_body fill hf ms false fs hd h
        exact ⟨by unfold lk; rw [if_neg d, ih.1], by rw [List.length_cons, ih.2, List.length_cons]⟩
      · rw [bodyF_I (by simpa using d) h46]
        have ih := lk_body fill hf ms hid fs hd h
        exact ⟨by unfold lk; rw [if_neg d, ih.1], by rw [List.length_cons, ih.2, List.length_cons]⟩
theorem lk_nine : ∀ fs : List Nat, (∀ c ∈ fs, 48 ≤ c ∧ c ≤ 57) → lk (List.replicate fs.length 57) fs = fs
  | [], _ => rfl
  | c :: cs, h => by
    rw [List.length_cons, List.replicate_succ]
    unfold lk
    rw [if_pos (show isD 57 = true from rfl), if_pos (h c (.head _)), lk_nine cs fun c hc => h c (.tail _ hc)]
theorem nine_ct (n : Nat) : ((List.replicate n 57).filter isD).length = n := by
  rw [List.filter_replicate, if_pos (show isD 57 = true from rfl), List.length_replicate]
/-- the value of figures -/
theorem dv_app (a : Nat) (l : List Nat) (c : Nat) : (l ++ [c]).foldl (fun acc c => acc * 10 + (c - 48)) a = l.foldl (fun acc c => acc * 10 + (c - 48)) a * 10 + (c - 48) := by
  rw [List.foldl_append]; rfl
theorem dv_pad : ∀ k n : Nat, n < 10 ^ k → NumText.digitsVal (WP.padL k n) = n
  | 0, n, h => by
    have : n = 0 := by simpa using h
    subst this; rfl
  | k + 1, n, h => by
    have e10 : 10 ^ (k + 1) = 10 ^ k * 10 := Nat.pow_succ ..
    have ih := dv_pad k (n / 10) (by omega)
    unfold NumText.digitsVal at ih ⊢
    rw [show WP.padL (k + 1) n = WP.padL k (n / 10) ++ [48 + n % 10] from rfl, dv_app, ih]
    omega
theorem dv_lt : ∀ l : List Nat, (∀ c ∈ l, 48 ≤ c ∧ c ≤ 57) → NumText.digitsVal l < 10 ^ l.length := by
  intro l
  have h : ∀ n, ∀ l : List Nat, l.length = n → (∀ c ∈ l, 48 ≤ c ∧ c ≤ 57) → NumText.digitsVal l < 10 ^ n := by
    intro n
    induction n with
    | zero =>
      intro l hl _
      have : l = [] := List.length_eq_zero_iff.mp hl
      subst this
      decide
    | succ n ih =>
      intro l hl hd
      have hne : l ≠ [] := fun e => by rw [e] at hl; cases hl
      have e := List.dropLast_concat_getLast hne
      have hm := hd (l.getLast hne) (List.getLast_mem hne)
      have h2 := ih l.dropLast (by rw [List.length_dropLast, hl]; rfl) fun c hc => hd c (List.dropLast_subset l hc)
      rw [← e]
      unfold NumText.digitsVal at h2 ⊢
      rw [dv_app, Nat.pow_succ]
      omega
  exact h _ l rfl
theorem padL_dig : ∀ (k n c : Nat), c ∈ WP.padL k n → 48 ≤ c ∧ c ≤ 57
  | 0, _, _, h => by cases h
  | k + 1, n, c, h => by
    rcases List.mem_append.mp (show c ∈ WP.padL k (n / 10) ++ [48 + n % 10] from h) with e | e
    · exact padL_dig k _ c e
    · rw [List.mem_singleton.mp e]; omega
/-! ### the parts of a text -/
def many (p : Pic) (l : List Nat) : Nat := match p with
  | .num _ _ _ => l.length
  | .ed b _ _ _ => b.length
def cutS (p : Pic) (l : List Nat) : List Nat := if p.sgn ∈ [[45], [43]] then l.take 1 else l.drop (many p l)
def cutB (p : Pic) (l : List Nat) : List Nat := if p.sgn ∈ [[45], [43]] then l.drop 1 else l.take (many p l)
def mks (p : Pic) (b : List Nat) : List Nat := match p with
  | .num _ _ _ => List.replicate b.length 57
  | .ed m _ _ _ => m
def NEG : List (List Nat) := [[45], [67, 82], [68, 66]]
def likely (p : Pic) (l : List Nat) : Int :=
  if cutS p l ∈ NEG then -((NumText.digitsVal (lk (mks p (cutB p l)) (cutB p l)) : Nat) : Int) else ((NumText.digitsVal (lk (mks p (cutB p l)) (cutB p l)) : Nat) : Int)
def rd (p : Pic) (l : List Nat) : Option Int := if l.length = siz p ∧ writ p (likely p l) = l then some (likely p l) else none
def rdV : Option Int → V
  | none => .non
  | some u => .int u
def hld (r : MR.Res) (l : List Nat) : Bool := match r with
  | .txt n => decide (l.length = n) && MW.prn l
  | .pic p => (rd p l).isSome
theorem sgm_l : ∀ s ∈ MP.signs, (MR.sgm s).length = (if s = [] then 0 else if s = [99, 114] ∨ s = [100, 98] then 2 else 1) := by decide
theorem sgnT (w f : Nat) : (Pic.num true w f).sgn ∈ [[45], [43]] := show [43] ∈ [[45], [43]] by decide
theorem sgnF (w f : Nat) : ¬ (Pic.num false w f).sgn ∈ [[45], [43]] := show ¬ [] ∈ [[45], [43]] by decide
theorem sgnE (b : List Nat) (w f : Nat) : ¬ (Pic.ed b w f []).sgn ∈ [[45], [43]] := show ¬ [] ∈ [[45], [43]] by decide
theorem neg0 : ¬ ([] : List Nat) ∈ NEG := by decide
/-- the marks go with the body -/
theorem body_ok {p : Pic} {l : List Nat} (ho : p.Ok) (hl : l.length = siz p) : (mks p (cutB p l)).length = (cutB p l).length ∧ ((mks p (cutB p l)).filter isD).length = p.n ∧ (cutB p l).length ≤ 60 := by
  cases p with
  | num sg w f =>
    have h1 : w + f ≤ 18 := ho.2
    have hl : l.length = w + f + (if sg = true then 1 else 0) := hl
    have e : (cutB (.num sg w f) l).length = w + f := by
      unfold cutB
      cases sg with
      | true => rw [if_pos (sgnT w f), List.length_drop]; simp at hl; omega
      | false =>
        rw [if_neg (sgnF w f)]
        show (l.take l.length).length = _
        rw [List.take_length]
        simpa using hl
    refine ⟨List.length_replicate .., ?_, by omega⟩
    show ((List.replicate (cutB (.num sg w f) l).length 57).filter isD).length = w + f
    rw [nine_ct, e]
  | ed b w f s =>
    have hb := ho.2.2.1
    have hl : l.length = b.length + (MR.sgm s).length := hl
    have hs := sgm_l s ho.2.2.2
    have e : (cutB (.ed b w f s) l).length = b.length := by
      unfold cutB
      show (if s ∈ [[45], [43]] then l.drop 1 else l.take b.length).length = _
      by_cases h : s ∈ [[45], [43]]
      · rw [if_pos h, List.length_drop]
        have h' : s = [45] ∨ s = [43] := by simpa using h
        rcases h' with rfl | rfl <;> simp [MR.sgm] at hl <;> omega
      · rw [if_neg h, List.length_take]; omega
    exact ⟨e.symm, hb.ct, by have := hb.ln; omega⟩
theorem figs_ok {p : Pic} {l : List Nat} (ho : p.Ok) (hl : l.length = siz p) : (lk (mks p (cutB p l)) (cutB p l)).length = p.n := by
  obtain ⟨h1, h2, _⟩ := body_ok ho hl
  rw [lk_len _ _ h1, h2]
/-- a sign that is negative stands only where the picture has one -/
theorem neg_sgd {p : Pic} {l : List Nat} (ho : p.Ok) (hl : l.length = siz p) (h : cutS p l ∈ NEG) : p.sgd = true := by
  cases p with
  | num sg w f =>
    cases sg with
    | true => rfl
    | false =>
      exfalso
      unfold cutS at h
      rw [if_neg (sgnF w f)] at h
      have : (l.drop (many (.num false w f) l)) = [] := List.drop_length
      rw [this] at h
      exact neg0 h
  | ed b w f s =>
    by_cases e : s = []
    · exfalso
      subst e
      have hl : l.length = b.length + 0 := hl
      unfold cutS at h
      rw [if_neg (sgnE b w f)] at h
      have : (l.drop (many (.ed b w f []) l)) = [] := List.drop_eq_nil_of_le (by show l.length ≤ b.length; omega)
      rw [this] at h
      exact neg0 h
    · show (!decide (s = [])) = true
      rw [decide_eq_false e]; rfl
theorem likely_suits {p : Pic} {l : List Nat} (ho : p.Ok) (hl : l.length = siz p) : Suits p (likely p l) := by
  have h := dv_lt _ (lk_dig (mks p (cutB p l)) (cutB p l))
  rw [figs_ok ho hl] at h
  unfold likely
  split
  · rename_i hn
    exact ⟨by rw [Int.natAbs_neg, Int.natAbs_natCast]; exact h, .inr (neg_sgd ho hl hn)⟩
  · exact ⟨by rw [Int.natAbs_natCast]; exact h, .inl (by omega)⟩
theorem sg_len : ∀ s ∈ MP.signs, ∀ neg : Bool, (signText s neg).length = (MR.sgm s).length := by decide
theorem sg_neg : ∀ s ∈ MP.signs, s ≠ [] → ∀ neg : Bool, decide (signText s neg ∈ NEG) = neg := by decide
theorem bt_len {b : List Nat} {n : Nat} {fs : List Nat} (hb : Body b n) (hf : ∀ c ∈ fs, 48 ≤ c ∧ c ≤ 57) (hl : fs.length = n) : lk b (bodyText b fs) = fs ∧ (bodyText b fs).length = b.length :=
  lk_body _ (by unfold fillOf; split <;> decide) _ _ _ hf (by rw [hb.ct, hl])
/-- the sign and the body of a field -/
theorem writ_parts {p : Pic} {u : Int} (ho : p.Ok) (hs : Suits p u) : (writ p u).length = siz p ∧ (cutS p (writ p u) ∈ NEG ↔ u < 0) ∧ lk (mks p (cutB p (writ p u))) (cutB p (writ p u)) = WP.padL p.n u.natAbs := by
  have pd := fun c hc => padL_dig p.n u.natAbs c hc
  have pl := WP.padL_len p.n u.natAbs
  cases p with
  | num sg w f =>
    have pl' : (WP.padL (w + f) u.natAbs).length = w + f := pl
    have e : writ (.num sg w f) u = signText (if sg then [43] else []) (decide (u < 0)) ++ WP.padL (w + f) u.natAbs := rfl
    have nine : lk (List.replicate (WP.padL (w + f) u.natAbs).length 57) (WP.padL (w + f) u.natAbs) = WP.padL (w + f) u.natAbs := lk_nine _ pd
    rw [e]
    cases sg with
    | false =>
      have e0 : signText (if false = true then [43] else []) (decide (u < 0)) = [] := rfl
      rw [e0, List.nil_append]
      have eS : cutS (.num false w f) (WP.padL (w + f) u.natAbs) = [] := by
        unfold cutS
        rw [if_neg (sgnF w f)]
        exact List.drop_length
      have eB : cutB (.num false w f) (WP.padL (w + f) u.natAbs) = WP.padL (w + f) u.natAbs := by
        unfold cutB
        rw [if_neg (sgnF w f)]
        exact List.take_length
      refine ⟨pl', ?_, ?_⟩
      · rw [eS]
        have : ¬ u < 0 := by
          rcases hs.2 with h | h
          · omega
          · cases h
        exact ⟨fun h => absurd h neg0, fun h => absurd h this⟩
      · rw [eB]; exact nine
    | true =>
      have hl : (signText (if true = true then [43] else []) (decide (u < 0))).length = 1 := by
        have := sg_len [43] (by decide) (decide (u < 0))
        exact this
      have hn := sg_neg [43] (by decide) (by decide) (decide (u < 0))
      have hn : decide (signText (if true = true then [43] else []) (decide (u < 0)) ∈ NEG) = decide (u < 0) := hn
      generalize signText (if true = true then [43] else []) (decide (u < 0)) = sg at hl hn ⊢
      have eS : cutS (.num true w f) (sg ++ WP.padL (w + f) u.natAbs) = sg := by
        unfold cutS
        rw [if_pos (sgnT w f), List.take_append_of_le_length (by omega), List.take_of_length_le (by omega)]
      have eB : cutB (.num true w f) (sg ++ WP.padL (w + f) u.natAbs) = WP.padL (w + f) u.natAbs := by
        unfold cutB
        rw [if_pos (sgnT w f), ← hl, List.drop_left]
      refine ⟨by rw [List.length_append, hl, pl']; show 1 + (w + f) = w + f + 1; omega, ?_, ?_⟩
      · rw [eS]
        exact decide_eq_decide.mp hn
      · rw [eB]; exact nine
  | ed b w f s =>
    have hb := ho.2.2.1
    have hsg := ho.2.2.2
    obtain ⟨k1, k2⟩ := bt_len (fs := WP.padL (w + f) u.natAbs) hb pd pl
    have hl := sg_len s hsg (decide (u < 0))
    have e : writ (.ed b w f s) u = if s = [45] ∨ s = [43] then signText s (decide (u < 0)) ++ bodyText b (WP.padL (w + f) u.natAbs) else bodyText b (WP.padL (w + f) u.natAbs) ++ signText s (decide (u < 0)) := rfl
    have hneg : signText s (decide (u < 0)) ∈ NEG ↔ u < 0 := by
      by_cases hn : s = []
      · subst hn
        have : ¬ u < 0 := by
          rcases hs.2 with h | h
          · omega
          · cases h
        exact ⟨fun h => absurd h neg0, fun h => absurd h this⟩
      · exact decide_eq_decide.mp (sg_neg s hsg hn (decide (u < 0)))
    rw [e]
    generalize signText s (decide (u < 0)) = sg at *
    generalize bodyText b (WP.padL (w + f) u.natAbs) = T at *
    by_cases c : s = [45] ∨ s = [43]
    · have c' : s ∈ [[45], [43]] := by simpa using c
      have hl1 : sg.length = 1 := by
        rw [hl]
        rcases c with rfl | rfl <;> rfl
      rw [if_pos c]
      have eS : cutS (.ed b w f s) (sg ++ T) = sg := by
        unfold cutS
        rw [if_pos (show (Pic.ed b w f s).sgn ∈ [[45], [43]] from c'), List.take_append_of_le_length (by omega), List.take_of_length_le (by omega)]
      have eB : cutB (.ed b w f s) (sg ++ T) = T := by
        unfold cutB
        rw [if_pos (show (Pic.ed b w f s).sgn ∈ [[45], [43]] from c'), ← hl1, List.drop_left]
      rw [eS, eB]
      exact ⟨by rw [List.length_append, hl, k2]; show _ = b.length + (MR.sgm s).length; omega, hneg, k1⟩
    · have c' : ¬ s ∈ [[45], [43]] := by simpa using c
      rw [if_neg c]
      have eS : cutS (.ed b w f s) (T ++ sg) = sg := by
        unfold cutS
        rw [if_neg (show ¬ (Pic.ed b w f s).sgn ∈ [[45], [43]] from c')]
        show (T ++ sg).drop b.length = sg
        rw [← k2, List.drop_left]
      have eB : cutB (.ed b w f s) (T ++ sg) = T := by
        unfold cutB
        rw [if_neg (show ¬ (Pic.ed b w f s).sgn ∈ [[45], [43]] from c')]
        show (T ++ sg).take b.length = T
        rw [← k2, List.take_left]
      rw [eS, eB]
      exact ⟨by rw [List.length_append, hl, k2]; rfl, hneg, k1⟩
theorem likely_writ {p : Pic} {u : Int} (ho : p.Ok) (hs : Suits p u) : likely p (writ p u) = u := by
  obtain ⟨h1, h2, h3⟩ := writ_parts ho hs
  unfold likely
  rw [h3, dv_pad _ _ hs.1]
  by_cases c : u < 0
  · rw [if_pos (h2.mpr c)]; omega
  · rw [if_neg (fun h => c (h2.mp h))]; omega
theorem rd_writ {p : Pic} {u : Int} (ho : p.Ok) (hs : Suits p u) : rd p (writ p u) = some u := by
  unfold rd
  rw [likely_writ ho hs, if_pos ⟨(writ_parts ho hs).1, rfl⟩]
theorem rd_some {p : Pic} {l : List Nat} {u : Int} (ho : p.Ok) (h : rd p l = some u) : Suits p u ∧ writ p u = l := by
  unfold rd at h
  split at h
  · rename_i c
    cases h
    exact ⟨likely_suits ho c.1, c.2⟩
  · cases h
theorem rd_none {p : Pic} {l : List Nat} (ho : p.Ok) (h : rd p l = none) {u : Int} (hs : Suits p u) : writ p u ≠ l := fun e => by
  rw [← e, rd_writ ho hs] at h
  cases h
theorem siz_le {p : Pic} (ho : p.Ok) : siz p ≤ 64 := by
  cases p with
  | num sg w f =>
    have h1 : w + f ≤ 18 := ho.2
    show w + f + (if sg = true then 1 else 0) ≤ 64
    split <;> omega
  | ed b w f s =>
    have hb := ho.2.2.1.ln
    have hs := sgm_l s ho.2.2.2
    show b.length + (MR.sgm s).length ≤ 64
    rw [hs]
    split
    · omega
    · split <;> omega
theorem cutB_mem {p : Pic} {l : List Nat} {c : Nat} (h : c ∈ cutB p l) : c ∈ l := by
  unfold cutB at h
  split at h
  · exact List.mem_of_mem_drop h
  · exact List.mem_of_mem_take h
theorem figs1 (d : Nat) : MW.figs [d] = decide (48 ≤ d ∧ d ≤ 57) := by
  have e : MW.figs [d] = decide (d ∈ MW.FIG) := by
    unfold MW.figs MW.allIn
    simp
  rw [e]
  congr 1
  refine propext ⟨fun h => ?_, fun ⟨h1, h2⟩ => ?_⟩
  · have h' : d = 48 ∨ d = 49 ∨ d = 50 ∨ d = 51 ∨ d = 52 ∨ d = 53 ∨ d = 54 ∨ d = 55 ∨ d = 56 ∨ d = 57 := by simpa [MW.FIG] using h
    omega
  · have : ∀ d < 58, 48 ≤ d → d ∈ MW.FIG := by decide
    exact this d (by omega) h1
theorem lk_drop {mk bd : List Nat} {i c d : Nat} (h1 : mk[i]? = some c) (h2 : bd[i]? = some d) : lk (mk.drop i) (bd.drop i) = (if isD c = true then [if 48 ≤ d ∧ d ≤ 57 then d else 48] else []) ++ lk (mk.drop (i + 1)) (bd.drop (i + 1)) := by
  rw [drop_some h1, drop_some h2]
  show (if isD c = true then _ else _) = _
  split <;> rfl
theorem flat1 : ∀ l : List Nat, (l.map fun c => [c]).flatten = l
  | [] => rfl
  | c :: l => by rw [List.map_cons, List.flatten_cons, flat1 l]; rfl
theorem sum1 : ∀ l : List Nat, (l.map ((fun x : List Nat => x.length) ∘ fun c => [c])).sum = l.length
  | [] => rfl
  | c :: l => by rw [List.map_cons, List.sum_cons, sum1 l, List.length_cons]; show 1 + _ = _; omega
theorem dig_all {l : List Nat} (h : ∀ c ∈ l, 48 ≤ c ∧ c ≤ 57) : l.all (fun c => decide (48 ≤ c) && decide (c ≤ 57)) = true := by
  rw [List.all_eq_true]
  intro c hc
  rw [Bool.and_eq_true, decide_eq_true_eq, decide_eq_true_eq]
  exact h c hc
/-- the signs at the digits' places, as they stand -/
def raw : List Nat → List Nat → List Nat
  | m :: ms, c :: cs => if isD m = true then c :: raw ms cs else raw ms cs
  | _, _ => []
def fx (c : Nat) : Nat := if 48 ≤ c ∧ c ≤ 57 then c else 48
theorem raw_lk : ∀ ms cs : List Nat, (raw ms cs).map fx = lk ms cs
  | [], _ => by unfold raw lk; rfl
  | _ :: _, [] => by unfold raw lk; rfl
  | m :: ms, c :: cs => by
    unfold raw lk
    by_cases d : isD m = true
    · rw [if_pos d, if_pos d, List.map_cons, raw_lk ms cs]; rfl
    · rw [if_neg d, if_neg d, raw_lk ms cs]
theorem raw_take : ∀ {ms cs : List Nat} {i c d : Nat}, ms[i]? = some c → cs[i]? = some d → raw (ms.take (i + 1)) (cs.take (i + 1)) = raw (ms.take i) (cs.take i) ++ if isD c = true then [d] else []
  | [], _, _, _, _, h, _ => by simp at h
  | _ :: _, [], _, _, _, _, h => by simp at h
  | m :: ms, x :: cs, 0, c, d, h1, h2 => by
    simp at h1 h2
    subst h1 h2
    show raw (m :: []) (x :: []) = raw [] [] ++ _
    unfold raw
    split <;> rfl
  | m :: ms, x :: cs, i + 1, c, d, h1, h2 => by
    have ih := raw_take (ms := ms) (cs := cs) (i := i) (by simpa using h1) (by simpa using h2)
    show raw (m :: ms.take (i + 1)) (x :: cs.take (i + 1)) = raw (m :: ms.take i) (x :: cs.take i) ++ _
    unfold raw
    by_cases d : isD m = true
    · rw [if_pos d, if_pos d, ih]; rfl
    · rw [if_neg d, if_neg d, ih]
theorem fig_mem (c : Nat) : c ∈ [48, 49, 50, 51, 52, 53, 54, 55, 56, 57] ↔ 48 ≤ c ∧ c ≤ 57 := by
  refine ⟨fun h => ?_, fun ⟨h1, h2⟩ => ?_⟩
  · have h' : c = 48 ∨ c = 49 ∨ c = 50 ∨ c = 51 ∨ c = 52 ∨ c = 53 ∨ c = 54 ∨ c = 55 ∨ c = 56 ∨ c = 57 := by simpa using h
    omega
  · have : ∀ d < 58, 48 ≤ d → d ∈ [48, 49, 50, 51, 52, 53, 54, 55, 56, 57] := by decide
    exact this c (by omega) h1
end MF

namespace WP
open PySem PySem.Spec PyProof.Rows L2
theorem op_isBl {X : Cx} : OpR X (compareOp .Is) rIsB := L2.op_isBl
theorem op_notBl {X : Cx} : OpR X (compareOp .IsNot) rNotB := L2.op_notBl
theorem isBl {a b : Bool} {H : Hp} {Q : VK} (q : Q (.bl (decide (a = b))) H) : rIsB (.bl a) (.bl b) H Q := ⟨a, b, rfl, rfl, q⟩
theorem at_C {l : List Nat} {i : Int} (h0 : 0 ≤ i) (h1 : i < (l.length : Int)) : ∃ c, c ∈ l ∧ atI l i = some c := by
  have hl : i.toNat < l.length := by omega
  refine ⟨l[i.toNat], List.getElem_mem hl, ?_⟩
  have := atI_nat (xs := l) (j := i.toNat) (List.getElem?_eq_getElem hl)
  rw [Int.toNat_of_nonneg h0] at this
  exact this
end WP
namespace MF
open PySem PySem.Spec PyProof.Rows L2 MP
theorem range_none (P : Nat → Bool) : ∀ n, (∀ j < n, P j = false) → (List.range n).filter P = [] := fun n h => by
  rw [List.filter_eq_nil_iff]
  intro j hj
  rw [h j (List.mem_range.mp hj)]
  exact Bool.false_ne_true
theorem range_one (P : Nat → Bool) : ∀ n a, a < n → (∀ j < n, P j = decide (j = a)) → (List.range n).filter P = [a]
  | 0, a, h, _ => absurd h (by omega)
  | n + 1, a, h, hp => by
    rw [List.range_succ, List.filter_append]
    by_cases e : a = n
    · subst e
      rw [range_none P a fun j hj => by rw [hp j (by omega)]; exact decide_eq_false (by omega)]
      have : P a = true := by rw [hp a (by omega)]; exact decide_eq_true rfl
      simp [this]
    · rw [range_one P n a (by omega) fun j hj => hp j (by omega)]
      have : P n = false := by rw [hp n (by omega)]; exact decide_eq_false (by omega)
      simp [this]
def knw (p : Pic) (l : List Nat) : List Int := match rd p l with
  | none => []
  | some u => [u]
def fnd1 (p : Pic) (l : List Nat) (i : Nat) : List Int := ((List.range i).filter fun (j : Nat) => decide (writ p (j : Int) = l)).map fun (j : Nat) => (j : Int)
def fnd2 (p : Pic) (l : List Nat) (i : Nat) : List Int := ((List.range i).filter fun (j : Nat) => decide (writ p (-(1 + (j : Int))) = l)).map fun (j : Nat) => -(1 + (j : Int))
theorem fnd1_succ (p : Pic) (l : List Nat) (i : Nat) : fnd1 p l (i + 1) = fnd1 p l i ++ (if writ p (i : Int) = l then [(i : Int)] else []) := by
  unfold fnd1
  rw [List.range_succ, List.filter_append, List.map_append]
  congr 1
  by_cases h : writ p (i : Int) = l
  · simp [h]
  · simp [h]
theorem fnd2_succ (p : Pic) (l : List Nat) (i : Nat) : fnd2 p l (i + 1) = fnd2 p l i ++ (if writ p (-(1 + (i : Int))) = l then [-(1 + (i : Int))] else []) := by
  unfold fnd2
  rw [List.range_succ, List.filter_append, List.map_append]
  congr 1
  by_cases h : writ p (-(1 + (i : Int))) = l
  · simp [h]
  · simp [h]
theorem fnd1_len (p : Pic) (l : List Nat) (i : Nat) : (fnd1 p l i).length ≤ i := by
  unfold fnd1
  rw [List.length_map]
  exact Nat.le_trans (List.length_filter_le _ (List.range i)) (Nat.le_of_eq List.length_range)
theorem fnd2_len (p : Pic) (l : List Nat) (i : Nat) : (fnd2 p l i).length ≤ i := by
  unfold fnd2
  rw [List.length_map]
  exact Nat.le_trans (List.length_filter_le _ (List.range i)) (Nat.le_of_eq List.length_range)
theorem writ_iff {p : Pic} {l : List Nat} {u v : Int} (ho : p.Ok) (h : rd p l = some u) (hv : Suits p v) : writ p v = l ↔ v = u := by
  refine ⟨fun e => ?_, fun e => by rw [e]; exact (rd_some ho h).2⟩
  rw [← e, rd_writ ho hv] at h
  exact Option.some.inj h
theorem known_eq {p : Pic} {l : List Nat} (ho : p.Ok) : fnd1 p l (10 ^ p.n) ++ (if p.sgd = true then fnd2 p l (10 ^ p.n - 1) else []) = knw p l := by
  have hT : 0 < 10 ^ p.n := Nat.pow_pos (by decide)
  have s1 : ∀ j : Nat, j < 10 ^ p.n → Suits p (j : Int) := fun j hj => ⟨by rw [Int.natAbs_natCast]; exact hj, .inl (by omega)⟩
  have s2 : p.sgd = true → ∀ j : Nat, j < 10 ^ p.n - 1 → Suits p (-(1 + (j : Int))) := fun h j hj => ⟨by omega, .inr h⟩
  unfold knw
  cases e : rd p l with
  | none =>
    have f1 : fnd1 p l (10 ^ p.n) = [] := by
      unfold fnd1
      rw [range_none _ _ fun j hj => decide_eq_false (rd_none ho e (s1 j hj))]
      rfl
    rw [f1, List.nil_append]
    split
    · rename_i h
      unfold fnd2
      rw [range_none _ _ fun j hj => decide_eq_false (rd_none ho e (s2 h j hj))]
      rfl
    · rfl
  | some u =>
    have hu := (rd_some ho e).1
    by_cases c : u < 0
    · have f1 : fnd1 p l (10 ^ p.n) = [] := by
        unfold fnd1
        rw [range_none _ _ fun j hj => decide_eq_false (fun z => by have := (writ_iff ho e (s1 j hj)).mp z; omega)]
        rfl
      have hs : p.sgd = true := by
        rcases hu.2 with h | h
        · omega
        · exact h
      rw [f1, List.nil_append, if_pos hs]
      unfold fnd2
      rw [range_one _ (10 ^ p.n - 1) (-u - 1).toNat (by have := hu.1; omega) fun j hj => ?_]
      · show [-(1 + (((-u - 1).toNat : Nat) : Int))] = [u]
        congr 1
        omega
      · rw [decide_eq_decide, writ_iff ho e (s2 hs j hj)]
        omega
    · have f1 : fnd1 p l (10 ^ p.n) = [u] := by
        unfold fnd1
        rw [range_one _ (10 ^ p.n) u.toNat (by have := hu.1; omega) fun j hj => ?_]
        · show [((u.toNat : Nat) : Int)] = [u]
          congr 1
          omega
        · rw [decide_eq_decide, writ_iff ho e (s1 j hj)]
          omega
      rw [f1]
      split
      · rename_i h
        unfold fnd2
        rw [range_none _ _ fun j hj => decide_eq_false (fun z => by have := (writ_iff ho e (s2 h j hj)).mp z; omega)]
        rfl
      · rfl
/-- the signs that may be put in -/
def CHG : List Nat := [48, 49, 53, 57, 32, 42, 45, 43, 44, 46, 47, 67, 82, 68, 66, 10, 120]
def TXB : List Nat := [97, 98, 32, 99, 47]
theorem prn_nl {l : List Nat} (h : ∀ c ∈ l, c ∈ TXB ∨ c ∈ CHG) : MW.prn l = !decide (10 ∈ l) := by
  unfold MW.prn
  by_cases e : 10 ∈ l
  · rw [decide_eq_true e]
    have : l.all (fun c => decide (32 ≤ c ∧ c ≤ 126 ∧ c ≠ 37)) = false := by
      rw [List.all_eq_false]
      exact ⟨10, e, by decide⟩
    rw [this]; rfl
  · rw [decide_eq_false e]
    have : l.all (fun c => decide (32 ≤ c ∧ c ≤ 126 ∧ c ≠ 37)) = true := by
      rw [List.all_eq_true]
      intro c hc
      have k : ∀ c ∈ TXB ++ CHG, c ≠ 10 → decide (32 ≤ c ∧ c ≤ 126 ∧ c ≠ 37) = true := by decide
      refine k c ?_ (fun z => e (z ▸ hc))
      rw [List.mem_append]
      exact h c hc
    rw [this]; rfl
def TX3 : List Nat := TXB ++ TXB ++ TXB
theorem mul3 : Txt.mul (SX.S TXB) 3 = SX.S TX3 := by decide +kernel
theorem mulOk3 : MulOk (SX.S TXB) 3 := by
  refine ⟨by decide +kernel, fun _ _ => by decide +kernel, fun _ _ => ?_⟩
  unfold Builtin.Str.tooLong
  exact decide_eq_false (by rw [sizeLine_eq]; decide +kernel)
theorem hld_eq {n : Nat} {l : List Nat} (h : ∀ c ∈ l, c ∈ TXB ∨ c ∈ CHG) : hld (.txt n) l = (decide (l.length = n) && !decide (10 ∈ l)) := by
  show (decide (l.length = n) && MW.prn l) = _
  rw [prn_nl h]
theorem chg_lt : ∀ c ∈ CHG, c < 128 := by decide
theorem txb_lt : ∀ c ∈ TXB, c < 128 := by decide
theorem tx3_mem {c : Nat} (h : c ∈ TX3) : c ∈ TXB := by
  unfold TX3 at h
  rw [List.mem_append, List.mem_append] at h
  rcases h with (h | h) | h <;> exact h
theorem writ_lt {p : Pic} {u : Int} (ho : p.Ok) : ∀ c ∈ writ p u, c < 128 := fun c hc => by
  cases p with
  | num sg w f =>
    rcases List.mem_append.mp (show c ∈ signText (if sg then [43] else []) (decide (u < 0)) ++ WP.padL (w + f) u.natAbs from hc) with e | e
    · refine signText_lt _ ?_ _ c e
      cases sg
      · exact (show ([] : List Nat) ∈ MP.signs by decide)
      · exact (show ([43] : List Nat) ∈ MP.signs by decide)
    · have := padL_dig _ _ c e
      omega
  | ed b w f s =>
    have hb : ∀ c ∈ bodyText b (WP.padL (w + f) u.natAbs), c < 128 := bodyF_lt _ (by unfold fillOf; split <;> decide) _ _ _ ho.2.2.1.ok (fun c hc => by have := padL_dig _ _ c hc; omega)
    have hs := signText_lt s ho.2.2.2 (decide (u < 0))
    have hc' : c ∈ (if s = [45] ∨ s = [43] then signText s (decide (u < 0)) ++ bodyText b (WP.padL (w + f) u.natAbs) else bodyText b (WP.padL (w + f) u.natAbs) ++ signText s (decide (u < 0))) := hc
    split at hc'
    · rcases List.mem_append.mp hc' with e | e
      · exact hs c e
      · exact hb c e
    · rcases List.mem_append.mp hc' with e | e
      · exact hb c e
      · exact hs c e
theorem mulTX {H : Hp} {Q : VK} (q : Q (.str (SX.S TX3)) H) : WP.rMulS (.str (SX.S [97, 98, 32, 99, 47])) (.int 3) H Q := ⟨SX.S TXB, 3, rfl, rfl, mulOk3, by rw [mul3]; exact q⟩
end MF

namespace WP
open PySem PySem.Spec PyProof.Rows L2
theorem at_M {α : Type} {l : List α} (f : α → V) {i : Int} (h0 : 0 ≤ i) (h1 : i < (l.length : Int)) : ∃ c, c ∈ l ∧ atI (l.map f) i = some (f c) := by
  have hl : i.toNat < l.length := by omega
  refine ⟨l[i.toNat], List.getElem_mem hl, ?_⟩
  have := atI_nat (xs := l.map f) (j := i.toNat) (by rw [List.getElem?_map, List.getElem?_eq_getElem hl]; rfl)
  rw [Int.toNat_of_nonneg h0] at this
  exact this
theorem flat_one {α : Type} (x : α) : ∀ k : Nat, (List.replicate k [x]).flatten = List.replicate k x
  | 0 => rfl
  | k + 1 => by rw [List.replicate_succ, List.flatten_cons, flat_one x k, List.replicate_succ]; rfl
theorem rep1 {H : Hp} {Q : VK} {p : Addr} {x : V} {k : Int} (h : H p = some (.lst [x])) (k0 : 0 ≤ k) (k1 : k ≤ 1000) (q : ∀ a, H a = none → Q (.ref a) (upd H a (.lst (List.replicate k.toNat x)))) : rRep (.ref p) (.int k) H Q :=
  ⟨p, k, [x], rfl, rfl, h, by omega, by omega, by rw [sizeLine_eq]; simp; omega, fun a ha => by rw [flat_one]; exact q a ha⟩
theorem catLL {H : Hp} {Q : VK} {p b : Addr} {xs ys : List V} (h : H p = some (.lst xs)) (h2 : H b = some (.lst ys)) (hz : xs.length + ys.length ≤ 1000000) (q : ∀ a, H a = none → Q (.ref a) (upd H a (.lst (xs ++ ys)))) : rCat (.ref p) (.ref b) H Q :=
  ⟨p, b, xs, ys, rfl, rfl, h, h2, by rw [sizeLine_eq]; omega, q⟩
/-- all but what stands at d stays, tables stay tables -/
structure Sn (d : Addr) (H H' : Hp) : Prop where
  k : ∀ b u, b ≠ d → H b = some u → NT u → H' b = some u
  t : ∀ P, GxR.TabG H P → GxR.TabG H' P
theorem Sn.refl {d : Addr} {H : Hp} : Sn d H H := ⟨fun _ _ _ e _ => e, fun _ h => h⟩
theorem Sn.trans {d : Addr} {H H' H2 : Hp} (a : Sn d H H') (b : Sn d H' H2) : Sn d H H2 := ⟨fun x u m e n => b.k x u m (a.k x u m e n) n, fun P h => b.t P (a.t P h)⟩
theorem Sn.of {d : Addr} {H H' : Hp} (e : Sm H H') : Sn d H H' := ⟨fun b u _ h n => e.k b u h n, e.t⟩
theorem Sn.sx {d : Addr} {H H' : Hp} {ys : List V} (e : Sx d H H') (hd : H d = some (.lst ys)) : Sn d H H' := ⟨fun b u m h _ => e b u m h, fun P ⟨ps, h, t⟩ => ⟨ps, e P _ (fun z => by rw [z, hd] at h; cases h) h, t⟩⟩
theorem Sn.tup {K : PySem.W.Frag} {d : Addr} {H H' : Hp} {p : Addr} {xs ys : List V} (e : Sn d H H') (hd : H d = some (.lst ys)) (h : SqT K H p xs) : SqT K H' p xs := by
  rcases h with (h | ⟨o, h⟩) | h
  · exact .inl (.inl (e.k _ _ (fun z => by rw [z, hd] at h; cases h) h nt_tup))
  · exact .inl (.inr ⟨o, e.k _ _ (fun z => by rw [z, hd] at h; cases h) h nt_frz⟩)
  · exact .inr h
end WP
namespace WP
open PySem PySem.Spec PyProof.Rows L2
theorem bt8 {m : Int} (h : m.natAbs ≤ 10 ^ 18) : Bt m 8000 := Nat.lt_of_le_of_lt h (Nat.lt_of_lt_of_le (show 10 ^ 18 < 2 ^ 60 by decide) (Nat.pow_le_pow_right (by decide) (by decide)))
end WP
namespace WP
open PySem PySem.Spec PyProof.Rows L2
theorem par {i j : Nat} {ta : TA} {D : Ends} {σ : L2.St} {H : Hp} (h : ta σ H fun vs H1 => ∃ v w, vs = [v, w] ∧ D.nx ((σ.set i (some v)).set j (some w)) H1) : tPar i j ta D σ H := h
end WP
namespace WP
open PySem PySem.Spec PyProof.Rows L2
theorem ifSv {c : Prop} [Decidable c] {a b : List Nat} {i : Nat} {σ : L2.St} {H : Hp} {Q : VK} (hv : σ[i]? = some (some (.str (SX.S b)))) (q : Q (.str (SX.S (if c then a else b))) H) : if decide c = true then tC (.str (SX.S a)) σ H Q else tVar i σ H Q := by
  by_cases h : c
  · rw [if_pos (decide_eq_true h)]; rw [if_pos h] at q; exact WP.con q
  · rw [if_neg (by rw [decide_eq_false h]; exact Bool.false_ne_true)]; rw [if_neg h] at q; exact WP.var hv q
end WP
namespace WP
open PySem PySem.Spec PyProof.Rows L2
theorem notBl {a b : Bool} {H : Hp} {Q : VK} (q : Q (.bl (!decide (a = b))) H) : rNotB (.bl a) (.bl b) H Q := ⟨a, b, rfl, rfl, q⟩
end WP

namespace MNm
/-! ### names that are told apart by a number -/
def dig (j : Nat) : List Nat := if j < 10 then [48 + j] else [48 + j / 10, 48 + j % 10]
theorem dig_ok : ∀ i < 42, ∀ j < 42, i < j → (dig i).length ≤ (dig j).length ∧ dig i ≠ dig j := by decide +kernel
def nx (l : List Nat) (j : Nat) : List Nat := l.take 16 ++ dig j
/-- the j-th candidate, if all before are taken -/
def cand (l : List Nat) : Nat → List Nat
  | 0 => l
  | j + 1 => nx (cand l j) j
theorem pre_step (l : List Nat) (j : Nat) : ∃ t, (cand l (j + 1)).take 16 = (cand l j).take 16 ++ t := by
  show ∃ t, (nx (cand l j) j).take 16 = _
  unfold nx
  rw [List.take_append, List.take_take, Nat.min_self]
  exact ⟨_, rfl⟩
theorem pre_le (l : List Nat) (i : Nat) : ∀ d, ∃ t, (cand l (i + d)).take 16 = (cand l i).take 16 ++ t
  | 0 => ⟨[], (List.append_nil _).symm⟩
  | d + 1 => by
    obtain ⟨t, h⟩ := pre_le l i d
    obtain ⟨u, h2⟩ := pre_step l (i + d)
    exact ⟨t ++ u, by rw [show i + (d + 1) = i + d + 1 from rfl, h2, h, List.append_assoc]⟩
theorem cand_ne (l : List Nat) {i j : Nat} (h : i < j) (hj : j < 42) : cand l (i + 1) ≠ cand l (j + 1) := by
  intro e
  obtain ⟨t, ht⟩ := pre_le l i (j - i)
  rw [show i + (j - i) = j by omega] at ht
  have e : (cand l i).take 16 ++ dig i = (cand l j).take 16 ++ dig j := e
  rw [ht, List.append_assoc] at e
  have e := List.append_cancel_left e
  obtain ⟨h1, h2⟩ := dig_ok i (by omega) j hj h
  have hl := congrArg List.length e
  rw [List.length_append] at hl
  have : t = [] := List.length_eq_zero_iff.mp (by omega)
  rw [this] at e
  exact h2 e
theorem cands_nodup (l : List Nat) {n : Nat} (hn : n < 42) : ((List.range n).map fun i => cand l (i + 1)).Nodup := by
  rw [List.Nodup, List.pairwise_map]
  refine List.Pairwise.imp_of_mem (fun {a b} ha hb hab => ?_) List.pairwise_lt_range
  exact cand_ne l hab (by have := List.mem_range.mp hb; omega)
/-- what the loop does -/
def run (ns : List (List Nat)) (l : List Nat) : Nat → List Nat
  | 0 => l
  | j + 1 => if run ns l j ∈ ns then nx (run ns l j) j else run ns l j
theorem run_or (ns : List (List Nat)) (l : List Nat) : ∀ j, run ns l j ∉ ns ∨ (run ns l j = cand l j ∧ ∀ i < j, cand l i ∈ ns)
  | 0 => by
    by_cases h : l ∈ ns
    · exact .inr ⟨rfl, fun i hi => absurd hi (Nat.not_lt_zero _)⟩
    · exact .inl h
  | j + 1 => by
    rcases run_or ns l j with h | ⟨h1, h2⟩
    · refine .inl ?_
      show (if run ns l j ∈ ns then _ else _) ∉ ns
      rw [if_neg h]; exact h
    · by_cases h : run ns l j ∈ ns
      · refine .inr ⟨?_, fun i hi => ?_⟩
        · show (if run ns l j ∈ ns then _ else _) = nx (cand l j) j
          rw [if_pos h, h1]
        · rcases Nat.lt_or_eq_of_le (Nat.le_of_lt_succ hi) with z | z
          · exact h2 i z
          · rw [z, ← h1]; exact h
      · refine .inl ?_
        show (if run ns l j ∈ ns then _ else _) ∉ ns
        rw [if_neg h]; exact h
theorem sub_len {α : Type} [DecidableEq α] : ∀ {a b : List α}, a.Nodup → (∀ x ∈ a, x ∈ b) → a.length ≤ b.length
  | [], _, _, _ => Nat.zero_le _
  | x :: a, b, h, k => by
    have h := List.nodup_cons.mp h
    have hx := k x List.mem_cons_self
    have := sub_len (b := b.erase x) h.2 fun y hy => (List.mem_erase_of_ne (fun z => h.1 (by rw [← z]; exact hy))).mpr (k y (List.mem_cons_of_mem _ hy))
    rw [List.length_erase_of_mem hx] at this
    have := List.length_pos_of_mem hx
    rw [List.length_cons]; omega
theorem run_new {ns : List (List Nat)} (l : List Nat) {n : Nat} (h : ns.length < n) (hn : n < 41) : run ns l (n + 1) ∉ ns := by
  rcases run_or ns l (n + 1) with h1 | ⟨_, h2⟩
  · exact h1
  · exfalso
    have := sub_len (cands_nodup l (n := n) (by omega)) (b := ns) fun x hx => by
      obtain ⟨i, hi, rfl⟩ := List.mem_map.mp hx
      have := List.mem_range.mp hi
      exact h2 (i + 1) (by omega)
    rw [List.length_map, List.length_range] at this
    omega
theorem dig_num : ∀ j < 42, dig j = TL.numL j := by decide +kernel
theorem dig_ok2 : ∀ j < 42, (dig j).length ≤ 2 ∧ ∀ c ∈ dig j, c < 128 := by decide +kernel
/-- what every candidate keeps -/
theorem run_ok {ns : List (List Nat)} {l : List Nat} (h : l.length ≤ 20 ∧ ∀ c ∈ l, c < 128) : ∀ {j : Nat}, j < 42 → (run ns l j).length ≤ 20 ∧ ∀ c ∈ run ns l j, c < 128
  | 0, _ => h
  | j + 1, hj => by
    have k := run_ok (ns := ns) h (j := j) (by omega)
    have d := dig_ok2 j (by omega)
    show (if run ns l j ∈ ns then nx (run ns l j) j else run ns l j).length ≤ 20 ∧ ∀ c ∈ (if run ns l j ∈ ns then nx (run ns l j) j else run ns l j), c < 128
    by_cases z : run ns l j ∈ ns
    · rw [if_pos z]
      refine ⟨?_, fun c hc => ?_⟩
      · show ((run ns l j).take 16 ++ dig j).length ≤ 20
        rw [List.length_append, List.length_take]; omega
      · rcases List.mem_append.mp hc with q | q
        · exact k.2 c (List.mem_of_mem_take q)
        · exact d.2 c q
    · rw [if_neg z]; exact k
theorem run_pos {ns : List (List Nat)} {l : List Nat} {j : Nat} (h : run ns l j ∈ ns) : run ns l (j + 1) = (run ns l j).take 16 ++ dig j := if_pos h
theorem run_neg {ns : List (List Nat)} {l : List Nat} {j : Nat} (h : run ns l j ∉ ns) : run ns l (j + 1) = run ns l j := if_neg h
end MNm

namespace WP
open PySem PySem.Spec PyProof.Rows L2
/-! ### list.extend with a list or a tuple -/
def rExtA (K : PySem.W.Frag) : V → List V → Hp → VK → Prop := fun x vs H Q => ∃ l b xs zs, x = .ref l ∧ vs = [.ref b] ∧ H l = some (.lst xs) ∧ (H b = some (.lst zs) ∨ SqT K H b zs) ∧ xs.length + zs.length ≤ 1000000 ∧ Q .non (upd H l (.lst (xs ++ zs)))
end WP
namespace PySem
open Sem (wp)
open AutoSeq1
theorem wp_list_extend_tup (l : Addr) (items : Array Value) (n : Nat) (b : Addr) (items2 : Array Value) (n2 : Nat) (od : Option Addr) (osl : Array (Option Value)) (hs0 : ¬(!items.isEmpty && Builtin.List.listTooLong (items.size + items2.size)) = true) (hs1 : items.size ≤ sizeLine) (hs2 : items.size + items2.size ≤ sizeLine + 1 := by seq_fits) :
    Meets (Builtin.«list.extend» ⟨[.ref l, .ref b], []⟩) (fun _ R s => s.heap.get? l = some { cls := .type "list", dict := none, data := .seq items n, slots := #[] } ∧ s.heap.get? b = some { cls := .type "tuple", dict := od, data := .seq items2 n2, slots := osl } ∧ R (.ok (.ret Value.none)) { s with heap := s.heap.update l (Obj.mapSeq fun x => x ++ items2), toks := s.toks }) :=
  .of_wp fun prog w A R s h => by
    obtain ⟨hp, g, d, tk, os⟩ := s; obtain ⟨hl, hb, h⟩ := h; have f2 := sub_tuple_tuple; have f3 := sub_list_list; have f4 := sub_tuple_list; have f5 := sub_list_tuple;
    have hz' : (items ++ items2).size ≤ sizeLine + 1 := by rw [Array.size_append]; exact hs2
    wp_walk using (wpAny_updateSeq hl rfl (hz := hs1) (_hz' := hz')), wpAny_loadPart' hl, wpAny_loadPart' hb; exact ⟨_, rfl, h⟩
end PySem
namespace WP
open PySem PySem.Spec PyProof.Rows L2
theorem mt_extendT {X : Cx} : MtM X "list.extend" (fun x vs H Q => ∃ l b xs zs, x = .ref l ∧ vs = [.ref b] ∧ H l = some (.lst xs) ∧ SqT X.K H b zs ∧ xs.length + zs.length ≤ 1000000 ∧ Q .non (upd H l (.lst (xs ++ zs)))) := by
  intro pins s σ H x vs v us Q I rx rv h
  obtain ⟨l, b, xs, zs, rfl, rfl, hH, hB, hz, q⟩ := h
  cases rx
  obtain ⟨u, rfl, ru⟩ := rv.one
  cases ru
  obtain ⟨z, its, n, r, hl, e⟩ := I.lstM hH
  obtain ⟨its2, r2, ht, hz2⟩ := I.tuple hB
  have hl2 := r2.length
  have hsz : its.toArray.size + its2.toArray.size ≤ sizeLine := by rw [List.size_toArray, List.size_toArray, sizeLine_eq]; omega
  have hlong : ¬ (!its.toArray.isEmpty && Builtin.List.listTooLong (its.toArray.size + its2.toArray.size)) = true := by
    rw [notLongL hsz, Bool.and_false]
    exact Bool.false_ne_true
  obtain ⟨⟨oc, od, oda, osl⟩, ho, hc, n2, hd⟩ := ht
  dsimp only at hc hd
  subst hc hd
  refine call_meets F.slot_list_extend ⟨_, e, rfl⟩ F.entry_list_extend (F.args_list_extend_2 _ _)
    (PySem.wp_list_extend_tup l its.toArray n b its2.toArray n2 od osl hlong (by rw [List.size_toArray, sizeLine_eq]; omega) (by omega)) ⟨e, ho, ?_⟩
  refine ⟨.non, _, I.lset (its' := its ++ its2) hH e (by simp) (r.append r2) ?_, rfl, q⟩
  rw [List.length_append, sizeLine_eq]
  omega
theorem mt_extendA {X : Cx} : MtM X "list.extend" (rExtA X.K) := by
  intro pins s σ H x vs v us Q I rx rv h
  obtain ⟨l, b, xs, zs, e1, e2, hH, hB, hz, q⟩ := h
  rcases hB with hB | hB
  · exact mt_extend pins s σ H x vs v us Q I rx rv ⟨l, b, xs, zs, e1, e2, hH, hB, by rw [sizeLine_eq]; omega, q⟩
  · exact mt_extendT pins s σ H x vs v us Q I rx rv ⟨l, b, xs, zs, e1, e2, hH, hB, hz, q⟩
/-! ### sorted(d), d a dict whose keys are ints -/
def rSortD : List V → Hp → VK → Prop := fun vs H Q => ∃ (a : Addr) (kvs : List (Key × V)) (ns : List Int), vs = [.ref a] ∧ H a = some (.dK kvs) ∧ kvs.map (·.1) = ns.map Sum.inl ∧
  ∀ (ns' : List Int) (p : Addr), ns'.Perm ns → ns'.Pairwise (· ≤ ·) → H p = none → Q (.ref p) (upd H p (.lst (ns'.map V.int)))
theorem paired_back {α β : Type} {F : α → β → Prop} : ∀ {l₁ : List α} {l₂ : List β}, Paired F l₁ l₂ → ∀ {j : Nat} {b : β}, l₂[j]? = some b → ∃ a, l₁[j]? = some a ∧ F a b
  | _, _, .nil, j, b, h => by cases h
  | _, _, .cons (l₁ := l₁) (l₂ := l₂) hf t, 0, b, h => by cases h; exact ⟨_, rfl, hf⟩
  | _, _, .cons (l₁ := l₁) (l₂ := l₂) hf t, j + 1, b, h => by
    obtain ⟨a, h1, h2⟩ := paired_back t (j := j) (by simpa using h)
    exact ⟨a, by simpa using h1, h2⟩
theorem ints_at : ∀ (us : List Value) (ns : List Int), us.length = ns.length → (∀ (j : Nat) (u : Value), us[j]? = some u → ∃ (n : Int) (t : Tok), ns[j]? = some n ∧ u = .int n t) → IntsAre us ns
  | [], [], _, _ => .nil
  | [], _ :: _, h, _ => by cases h
  | _ :: _, [], h, _ => by cases h
  | u :: us, n :: ns, h, hu => by
    obtain ⟨m, t, e1, rfl⟩ := hu 0 u rfl
    cases e1
    exact .cons _ t (ints_at us ns (by simpa using h) fun j u' hj => hu (j + 1) u' hj)
theorem cr_sortD {X : Cx} (hc : X.calm = true) : CallR X (.builtin "sorted") rSortD := by
  intro pins s σ H vs us Q I r h
  obtain ⟨a, kvs, ns, rfl, ha, hk, q⟩ := h
  rw [Vals.ref1 r]
  obtain ⟨hz, ns0, vv, kv, dof⟩ := dk_of I.hok ha
  obtain ⟨ep, hat⟩ := dof.dictAt
  have hlen : vv.length = ns.length := by
    have := congrArg List.length hk
    rw [List.length_map, List.length_map] at this
    rw [← this]; exact kv.length.symm
  have hzz : vv.length ≤ sizeLine := by rw [show vv.length = kvs.length from kv.length.symm]; exact hz
  refine Calls.call_function_entry kind_sorted plain_sorted entry_sorted (args_sorted1 _) ?_
  unfold Builtin.«sorted»
  refine wpAny_bind (m := checkCount "sorted" 1 1 _) (wpAny_pure ?_)
  refine wpAny_bind (PySem.W.kdu_collect (PySem.W.kdl_dict (knd := mixKind X.prog X.w) (kvs := vv) (ep := ep) ns0) (I.ok.hd hc) hat hzz fun h' tk acc keep hacc => ?_)
  have hl : acc.toList.length = vv.length := by rw [Array.length_toList]; exact hacc.1
  have hkeys : ∀ (j : Nat) k x, vv[j]? = some (k, x) → ∃ n, ns[j]? = some n ∧ k = Sum.inl n := fun j k x hj => by
    obtain ⟨p, hp, e, _⟩ := paired_back kv hj
    have h2 : (kvs.map (·.1))[j]? = some k := by rw [List.getElem?_map, hp]; exact congrArg some e
    rw [hk, List.getElem?_map] at h2
    cases h3 : ns[j]? with
    | none => rw [h3] at h2; cases h2
    | some n => rw [h3] at h2; cases h2; exact ⟨n, rfl, rfl⟩
  have hi : IntsAre acc.toList ns := ints_at _ _ (by rw [hl, hlen]) fun j u hu => by
    obtain ⟨k, x, h1, h2⟩ := hacc.2 j u (by rw [← Array.getElem?_toList]; exact hu)
    obtain ⟨n, h3, rfl⟩ := hkeys j k x h1
    obtain ⟨t, rfl⟩ := Value.isInt_shape h2
    exact ⟨n, t, h3, rfl⟩
  have hza : acc.toList.length ≤ sizeLine := by rw [hl]; exact hzz
  refine wpAny_bind (wpAny_newList ?_ hza)
  have hoL : (h'.push (seqObj "list" acc.toList.toArray 0)).get? h'.objs.size = some (seqObj "list" acc.toList.toArray 0) := Heap.get?_push_size _ rfl
  refine wpAny_bind (wpAny_holding (wpAny_call_entry slot_list_sort ⟨_, hoL, rfl⟩ entry_list_sort (SrtO.list_sort_ord SrtO.swo_int hoL hza (fun h2 => SrtO.ints_sortable hi h2) fun out h1 h2 => ⟨_, rfl, ?_⟩) (args_list_sort _)))
  obtain ⟨k1, k2, k3⟩ := SrtO.ints_out hi h1 h2
  obtain ⟨ep2, he'⟩ := PyProof.Rows.sortedHeap_at (vs := acc.toList) (out := out.toArray) hoL
  have hlo : ((out.map SrtO.iv).map V.int).length ≤ sizeLine := by
    rw [List.length_map, k2.length_eq, ← hlen]
    exact hzz
  have hnone : s.heap.get? h'.objs.size = none := by
    cases e : s.heap.get? h'.objs.size with
    | none => rfl
    | some o => exact absurd (Heap.lt_size (keep _ _ e)) (Nat.lt_irrefl _)
  have hn := I.hok.gone hnone
  refine wpAny_pure ⟨_, rfl, ?_⟩
  exact ⟨.ref _, upd H h'.objs.size (.lst ((out.map SrtO.iv).map V.int)), I.laidN (t' := tk) (fun b o e => by
    have e2 := keep b o e
    have hlt := Heap.lt_size e2
    rw [PyProof.Rows.sortedHeap_old (Nat.ne_of_lt hlt) (by rw [size_push']; exact Nat.lt_succ_of_lt hlt)]
    exact Heap.get?_push_of_some _ e2) hnone hn ⟨hlo, out, ep2, vals_of_ints k1, he'⟩, rfl, q _ _ k2 k3 hn⟩
/-! ### a dict's comprehension over a list -/
theorem dc_list {K : PySem.W.Frag} {a : Addr} {xs : List V} {g : TG} {tt : TT} {tk tv : TE} {vs : List Nat} {σ : L2.St} {H1 : Hp} {D : Addr} {Qd : Hp → Prop} (Pv : Nat → Hp → Prop) (h0 : Pv 0 (upd H1 D (.dK []))) (hl : ∀ i H, i ≤ xs.length → Pv i H → SqL K H a xs)
    (hs : ∀ i x H, xs[i]? = some x → Pv i H → g x (wipe σ vs) H fun σ2 H2 => wipe σ2 vs = wipe σ vs ∧ tt σ2 H2 fun b H3 =>
      if b = true then tk σ2 H3 fun y H4 => tv σ2 H4 fun z H5 => ∃ kvs k, y = kV k ∧ H5 D = some (.dK kvs) ∧ kvs.length < sizeLine ∧ Pv (i + 1) (upd H5 D (.dK (putK kvs k z))) else Pv (i + 1) H3) (hd : ∀ H, Pv xs.length H → Qd H) :
    ∃ W : Nat → Nat → Hp → Prop, (∃ m, W 0 m (upd H1 D (.dK []))) ∧ ∀ i m H, W i m H →
      ((Itl K a).stop i H ∧ Qd H) ∨ ((Itl K a).go i H ∧ ∃ Nx : Hp → Prop, (∀ H', Nx H' → ∃ m', m' < m ∧ W (i + 1) m' H') ∧ ∀ x H', (Itl K a).yld i H x H' → g x (wipe σ vs) H' fun σ2 H2 => wipe σ2 vs = wipe σ vs ∧ tt σ2 H2 fun b H3 =>
        if b = true then tk σ2 H3 fun y H4 => tv σ2 H4 fun z H5 => ∃ kvs k, y = kV k ∧ H5 D = some (.dK kvs) ∧ kvs.length < sizeLine ∧ Nx (upd H5 D (.dK (putK kvs k z))) else Nx H3) := by
  refine ⟨fun i m H => m = xs.length - i ∧ i ≤ xs.length ∧ Pv i H, ⟨xs.length, by simp, Nat.zero_le _, h0⟩, ?_⟩
  rintro i m H ⟨rfl, hi, p⟩
  have q := hl i H hi p
  by_cases hlt : i < xs.length
  · refine .inr ⟨⟨xs, xs[i], q, by simp [hlt]⟩, Pv (i + 1), fun H' p' => ⟨xs.length - (i + 1), by omega, rfl, hlt, p'⟩, fun x H' y => ?_⟩
    obtain ⟨e, y⟩ := y
    subst e
    exact hs i x _ (y xs q) p
  · have e : i = xs.length := by omega
    subst e
    exact .inl ⟨⟨xs, q, Nat.le_refl _⟩, hd H p⟩
/-- the reading of a list or a tuple that is cut -/
abbrev rSlAny (K : PySem.W.Frag) : V → Option Int → Option Int → Hp → VK → Prop := fun x lo hi H Q => rSlL K x lo hi H Q ∨ L2.rSlA K x lo hi H Q
theorem sl_any {X : Cx} : SlR X (rSlAny X.K) := SlR.or sl_list sl_tupA
theorem cutA {K : PySem.W.Frag} {H : Hp} {q : Addr} {xs : List V} {Q : VK} {lo hi : Option Int} (h : SqL K H q xs ∨ SqT K H q xs) (k : ∀ (p : Addr) (H' : Hp), Same H H' → (H' p = some (.lst (cutV xs lo hi)) ∨ SqT K H' p (cutV xs lo hi)) → Q (.ref p) H') : rSlAny K (.ref q) lo hi H Q := by
  rcases h with h | h
  · exact .inl ⟨q, xs, rfl, h, fun a ha => k a _ (fun b o e => by rw [upd_ne (ne_of_none e ha)]; exact e) (.inl upd_same)⟩
  · refine .inr ⟨q, xs, rfl, h, fun w => k q H (Same.refl H) (.inr ?_), fun _ p hp => k p _ (fun b o e => by rw [upd_ne (ne_of_none e hp)]; exact e) (.inr (SqT.of upd_same))⟩
    have e : cutV xs lo hi = xs := by
      unfold cutV
      rw [w.1, w.2, List.drop_zero, Nat.sub_zero, List.take_length]
    rw [e]; exact h
abbrev rIxA (K : PySem.W.Frag) : R2 := fun x y H Q => rIxL K x y H Q ∨ rIxT K x y H Q
theorem ix_any {X : Cx} : IxR X (rIxA X.K) := IxR.or ix_list ix_tup
theorem dcomp {wi : TI} {g : TG} {tt : TT} {tk tv : TE} {vs : List Nat} {σ : L2.St} {H : Hp} {Q : VK} (h : wi σ H fun J H1 => ∀ D, H1 D = none → ∃ W : Nat → Nat → Hp → Prop, (∃ m, W 0 m (upd H1 D (.dK []))) ∧ ∀ i m H, W i m H →
  (J.stop i H ∧ Q (.ref D) H) ∨ (J.go i H ∧ ∃ Nx : Hp → Prop, (∀ H', Nx H' → ∃ m', m' < m ∧ W (i + 1) m' H') ∧ ∀ x H', J.yld i H x H' → g x (wipe σ vs) H' fun σ2 H2 => wipe σ2 vs = wipe σ vs ∧ tt σ2 H2 fun b H3 =>
    if b = true then tk σ2 H3 fun y H4 => tv σ2 H4 fun z H5 => ∃ kvs k, y = kV k ∧ H5 D = some (.dK kvs) ∧ kvs.length < sizeLine ∧ Nx (upd H5 D (.dK (putK kvs k z))) else Nx H3)) : tDc wi g tt tk tv vs σ H Q := h
theorem star {K : PySem.W.Frag} {te : TE} {t : TA} {σ : L2.St} {H : Hp} {Q : List V → Hp → Prop} (h : te σ H fun x H1 => ∃ p xs, x = V.ref p ∧ (SqT K H1 p xs ∨ SqL K H1 p xs) ∧ t σ H1 fun ys H2 => Q (xs ++ ys) H2) : StX.tStar K te t σ H Q := h
end WP

namespace WET
open PySem PySem.Spec PyProof.Rows L2
/-! ### enumerate(tuple) -/
theorem new_of {v : Value} {o : Obj} {Hh : Heap → Prop} (B : Begins v o Hh) :
    Meets (Builtin.«enumerate.__new__» ⟨[.type "enumerate", v], []⟩) (fun _ R s => Hh s.heap ∧
      R (.ok (.ret (.ref (s.heap.push o).objs.size))) { s with heap := (s.heap.push o).push { cls := .type "enumerate", data := .fields #[.none, .bool false, .ref s.heap.objs.size, rawInt 0, .none, .none] } }) :=
  .of_wp fun prog w A R s h => by
    obtain ⟨hp, g, d, tk, os⟩ := s
    obtain ⟨h1, h⟩ := h
    have sub := sub_enumerate
    have it1 : ∀ {A' : Around} {E : Value → Shared → Prop} {Q : Value → Shared → Prop}, Q (.ref hp.objs.size) ⟨hp.push o, g, d, tk, os⟩ → wpAny (model prog w) A' (pyIter v) Q E ⟨hp, g, d, tk, os⟩ :=
      fun q => B.iter prog w _ _ ⟨hp, g, d, tk, os⟩ _ h1 q
    wp_walk using it1
    refine wpAny_stack_any fun st => wpAny_pure ?_
    split
    · rename_i cc _ _ _ _ _
      cases (cc == Value.type "enumerate")
      · wp_walk using it1
        exact ⟨_, rfl, h⟩
      · wp_walk using it1
        exact ⟨_, rfl, h⟩
    · wp_walk using it1
      exact ⟨_, rfl, h⟩
theorem begin_of {prog : Program} {w : World} {A : Around} {E : Value → Shared → Prop} {s : Shared} {v : Value} {o : Obj} {Hh : Heap → Prop} {Q : Value → Shared → Prop} (B : Begins v o Hh) (h1 : Hh s.heap)
    (k : ∀ h', IsEnum h' (s.heap.objs.size + 1) s.heap.objs.size 0 .none → h'.get? s.heap.objs.size = some o → h'.objs.size = s.heap.objs.size + 2 →
      (∀ b u, s.heap.get? b = some u → h'.get? b = some u) → Q (.ref (s.heap.objs.size + 1)) { s with heap := h' }) :
    wpAny (model prog w) A (call (.type "enumerate") [v]) Q E s := by
  refine callType_new F.called_enumerate (by decide) (F.typeCall_enumerate_1 _) (F.newCall_enumerate_1 _) (fun obj => F.args_object_init_2 obj _) F.entry_enumerate_new (new_of B) ⟨h1, ?_⟩
  have hz : (s.heap.push o).objs.size = s.heap.objs.size + 1 := Heap.size_push ..
  show _ ∧ _
  rw [hz]
  have en : IsEnum ((s.heap.push o).push { cls := .type "enumerate", data := .fields #[.none, .bool false, .ref s.heap.objs.size, rawInt 0, .none, .none] }) (s.heap.objs.size + 1) s.heap.objs.size 0 .none := by
    have q := Heap.get?_push_size (s.heap.push o) (o := { cls := .type "enumerate", data := .fields #[.none, .bool false, .ref s.heap.objs.size, rawInt 0, .none, .none] }) rfl
    rw [hz] at q; exact q
  refine ⟨⟨_, en, rfl⟩, k _ en (Heap.get?_push_of_some _ (Heap.get?_push_size _ B.free)) (by rw [Heap.size_push, hz]) fun b u x => Heap.get?_push_of_some _ (Heap.get?_push_of_some _ x)⟩
def Itn (K : PySem.W.Frag) (a : Addr) : It where
  go := fun n G => ∃ (ys : List V) (y : V), SqT K G a ys ∧ ys[n]? = some y
  yld := fun n G v G' => ∃ N y, v = .ref N ∧ G N = none ∧ G' = upd G N (.tup [.int ((n : Nat) : Int), y]) ∧ ∀ ys, SqT K G a ys → ys[n]? = some y
  stop := fun n G => ∃ ys : List V, SqT K G a ys ∧ ys.length = n
theorem apart_t {h : Heap} {li l : Addr} {n : Nat} {vs : Array Value} (a : h.IsTupleIter li l n) (b : IsTup h l vs) : l ≠ li := fun z => by
  obtain ⟨u, hu, uc, _⟩ := a
  obtain ⟨o, ho, oc, _⟩ := b
  rw [z, hu] at ho
  cases ho
  rw [uc] at oc
  exact absurd oc (by decide)
theorem tup_is {h : Heap} {l : Addr} {vs : Array Value} (b : IsTup h l vs) : h.IsTuple l vs := b
theorem turn0 {P : Program} {w : World} {K : PySem.W.Frag} {els : List Expr} {kd : Nat} {tp : Pos} (a en li : Addr) (hne : a ≠ li) :
    Turn P w K (.Tuple els kd tp) (Itn K a) [en, li] en (fun n h => (∃ pr, IsEnum h en li ((n : Nat) : Int) pr) ∧ h.IsTupleIter li a n ∧ en ≠ li) where
  mem := List.mem_cons_self
  obj := fun n h ⟨⟨pr, hE⟩, ⟨u, hu, uc, ud⟩, _⟩ b hb => by
    have cs : b = en ∨ b = li := by simpa using hb
    rcases cs with rfl | rfl
    · exact ⟨_, hE, fun v q => nomatch q⟩
    · exact ⟨u, hu, fun v q => by rw [ud] at q; cases q⟩
  keep := fun n h h2 ⟨⟨pr, hE⟩, hI, ne⟩ kp => ⟨⟨pr, kp en List.mem_cons_self _ hE⟩, hI.at fun u q => kp li (by simp) u q, ne⟩
  item := by
    intro X h1 h2 h3 hc n pins s σ G E I free st hg
    subst h1 h2 h3
    obtain ⟨⟨pr, hE⟩, hI, ne⟩ := st
    obtain ⟨ys, y, sq, hy⟩ := hg
    obtain ⟨vs, rv, pl, sz⟩ := I.tuple sq
    obtain ⟨u, hu, ru⟩ := rv.get hy
    have le : en < s.heap.objs.size := Heap.lt_size hE
    have ll : li < s.heap.objs.size := by
      obtain ⟨_, q, _⟩ := hI
      exact Heap.lt_size q
    have D := Draws.tuple (prog := X.prog) (w := X.w) (A := X.A.in1) (I.ok.hd hc) li a hne vs.toArray
    have ne2 : en ≠ a := fun z => by
      obtain ⟨o, ho, oc, _⟩ := pl
      rw [← z, hE] at ho
      cases ho
      exact absurd (show Value.type "enumerate" = Value.type "tuple" from oc) (by decide)
    have lt : n < vs.toArray.size := by
      have := (List.getElem?_eq_some_iff.mp hu).1
      simpa using this
    refine wpAny_pyNext_enum_itemC D hE ⟨hI, tup_is pl⟩ lt ne (by simp [ne, ne2]) fun u' hp2 tk hu' ho hI2' hN hz hk => ?_
    obtain rfl : u = u' := by
      have : vs[n]? = some u' := by simpa using hu'
      rw [hu] at this
      exact Option.some.inj this
    have hI2 := hI2'.1
    refine ⟨_, rfl, wpAny_letOwnedTupleGo_enum (s := { s with heap := hp2, toks := tk + 1 }) ho fun hp3 hE3 sb => ?_⟩
    have nN : s.heap.objs.size ≠ en := Nat.ne_of_gt le
    have at3 : hp3.get? s.heap.objs.size = some { cls := .type "tuple", data := .seq #[.int ((n : Nat) : Int) tk, u] } := by rw [sb.2 _ nN]; exact hN
    have two : 2 ≤ sizeLine := by decide
    have okT : ObjOk X.prog X.w (upd G s.heap.objs.size (.tup [.int ((n : Nat) : Int), y])) hp3 s.heap.objs.size (.tup [.int ((n : Nat) : Int), y]) :=
      ⟨two, [.int ((n : Nat) : Int) tk, u], .cons ⟨_, rfl⟩ (.cons ru .nil), ⟨_, at3, rfl, _, rfl⟩⟩
    have J : Inv X pins σ (upd G s.heap.objs.size (.tup [.int ((n : Nat) : Int), y])) { s with heap := hp3, toks := tk + 1 } := by
      refine I.turnedNew (ch := [en, li]) (fun b ob hb q => ?_) free (Nat.le_refl _) okT
      have b1 : b ≠ en := fun z => hb (by simp [z])
      have b2 : b ≠ li := fun z => hb (by simp [z])
      rw [sb.2 b b1]
      exact hk b ob b1 b2 q
    refine ⟨.ref s.heap.objs.size, _, J, rfl, ⟨_, y, rfl, I.hok.fresh (Nat.le_refl _), rfl, fun zs hs => by rw [I.tuple_inj hs sq]; exact hy⟩, ⟨⟨u, ?_⟩, hI2.at fun ob q => by rw [sb.2 li (Ne.symm ne)]; exact q, ne⟩, fun b hb => ?_⟩
    · rw [show ((n + 1 : Nat) : Int) = ((n : Nat) : Int) + 1 by omega]
      exact hE3
    · have lb : b < s.heap.objs.size := by
        have cs : b = en ∨ b = li := by simpa using hb
        rcases cs with rfl | rfl
        · exact le
        · exact ll
      rw [upd_ne (Nat.ne_of_lt lb)]
      exact (free b hb).1
  done := by
    intro X h1 h2 h3 hc n pins s σ G E I free st hg
    subst h1 h2 h3
    obtain ⟨⟨pr, hE⟩, hI, ne⟩ := st
    obtain ⟨ys, sq, ln⟩ := hg
    obtain ⟨vs, rv, pl, sz⟩ := I.tuple sq
    obtain ⟨g0, g1, g2, g3, g4, g5⟩ := free li (by simp)
    have lv := rv.length
    obtain rfl : vs.toArray.size = n := by simp; omega
    exact wpAny_pyNext_enum_endD (Draws.tuple (prog := X.prog) (w := X.w) (A := X.A.in1) (I.ok.hd hc) li a hne vs.toArray) hE ⟨hI, tup_is pl⟩ fun hp2 same => ⟨rfl, I.turned (t' := s.toks) (fun b ob hb q => same b ob hb q) g0 g1 g3 g4 g5⟩
  self := fun A n s Q E ⟨⟨_, hE⟩, _⟩ h => wpAny_pyIter_enum hE h
def iEnumT (K : PySem.W.Frag) (ta : TA) : TI := fun σ G R => ta σ G fun vs G1 => ∃ a ys, vs = [.ref a] ∧ SqT K G1 a ys ∧ R (Itn K a) G1
theorem pi_enumT {X : Cx} {e : Expr} {ta : TA} {p ps tp : Pos} {els : List Expr} {kd : Nat} (hg : Gl X "enumerate") (hm : X.mg "enumerate" = none) (ha : PA X [e] ta) (hs : starEach [e] X.env = [(false, eval e X.env)] := by rfl) :
    PI X (.Tuple els kd tp) (.Call (.Name "enumerate" p) [e] [] ps) (iEnumT X.K ta) := by
  refine ⟨fun pins s σ G R I h => ?_⟩
  refine Call_ (ld_blt I hg hm boot_enumerate (PyProof.Rows.callWith_type1 (thn (ha.run ps pins s σ G _ I h) fun us s1 ⟨vs, G1, I1, r1, q1⟩ => ?_) hs rfl))
  obtain ⟨a, ys, ev, sq, k⟩ := q1
  subst ev
  cases r1 with
  | cons r rr =>
    cases rr
    cases r
    obtain ⟨vs, rv, pl, sz⟩ := I1.tuple sq
    refine begin_of (begins_tuple a vs.toArray) (tup_is pl) fun hp2 hE hLi hz kp => wpAny_pyIter_enum hE ?_
    have J : Inv X pins σ G1 { s1 with heap := hp2 } := I1.kept (t' := s1.toks) kp
    have lit : hp2.IsTupleIter s1.heap.objs.size a 0 := ⟨_, hLi, rfl, rfl⟩
    have na : a ≠ s1.heap.objs.size := by
      obtain ⟨o, ho, _⟩ := pl
      exact Nat.ne_of_lt (Heap.lt_size ho)
    refine ⟨s1.heap.objs.size + 1, [s1.heap.objs.size + 1, s1.heap.objs.size], _, _, G1, rfl, J, turn0 a (s1.heap.objs.size + 1) s1.heap.objs.size na, ⟨⟨.none, hE⟩, lit, Nat.succ_ne_self _⟩, fun b hb => ?_, k⟩
    have cs : b = s1.heap.objs.size + 1 ∨ b = s1.heap.objs.size := by simpa using hb
    have le : s1.heap.objs.size ≤ b := by
      rcases cs with z | z
      · rw [z]; exact Nat.le_succ _
      · exact Nat.le_of_eq z.symm
    exact I1.fpOk le (I1.hok.fresh le)
/-- for n, x in enumerate(a tuple) -/
theorem for_enumT {K : PySem.W.Frag} {a : Addr} {ys : List V} {g : TG} {tb : TS} {D : Ends} {σ : L2.St} {G : Hp} (Pv : Nat → L2.St → Hp → Prop) (h0 : Pv 0 σ G) (hq : ∀ i σ G, i ≤ ys.length → Pv i σ G → SqT K G a ys)
    (hs : ∀ i y σ G N, ys[i]? = some y → G N = none → Pv i σ G → g (.ref N) σ (upd G N (.tup [.int ((i : Nat) : Int), y])) fun σ2 G2 => tb { D with nx := Pv (i + 1), ct := Pv (i + 1), bk := D.nx } σ2 G2) (hd : ∀ σ G, Pv ys.length σ G → D.nx σ G) :
    ∃ W : Nat → Nat → L2.St → Hp → Prop, (∃ m, W 0 m σ G) ∧ ∀ i m σ G, W i m σ G →
      ((Itn K a).stop i G ∧ D.nx σ G) ∨ ((Itn K a).go i G ∧ ∃ N : L2.St → Hp → Prop, (∀ σ' G', N σ' G' → ∃ m', m' < m ∧ W (i + 1) m' σ' G') ∧ ∀ x G', (Itn K a).yld i G x G' → g x σ G' fun σ2 G2 => tb { D with nx := N, ct := N, bk := D.nx } σ2 G2) := by
  refine ⟨fun i m σ G => i ≤ ys.length ∧ m = ys.length - i ∧ Pv i σ G, ⟨_, Nat.zero_le _, rfl, h0⟩, fun i m σ G hw => ?_⟩
  obtain ⟨le, rfl, pv⟩ := hw
  have sq := hq i σ G le pv
  rcases Nat.lt_or_ge i ys.length with lt | ge
  · have hy := List.getElem?_eq_getElem lt
    refine .inr ⟨⟨ys, _, sq, hy⟩, Pv (i + 1), fun σ' G' n => ⟨_, by omega, lt, rfl, n⟩, ?_⟩
    rintro x G' ⟨N, y, rfl, gn, rfl, al⟩
    exact hs i y σ G N (al ys sq) gn pv
  · have e : i = ys.length := by omega
    subst e
    exact .inl ⟨⟨ys, sq, rfl⟩, hd σ G pv⟩
end WET
namespace WP
open PySem PySem.Spec PyProof.Rows L2
theorem enumT {K : PySem.W.Frag} {ta : TA} {σ : L2.St} {G : Hp} {R : It → Hp → Prop} (h : ta σ G fun vs G1 => ∃ a ys, vs = [.ref a] ∧ SqT K G1 a ys ∧ R (WET.Itn K a) G1) : WET.iEnumT K ta σ G R := h
end WP

namespace WP
open PySem PySem.Spec PyProof.Rows L2
/-! ### a module's dict of tuples of texts -/
structure KDt (K : PySem.W.Frag) (w : World) (mg : MG) (nm : Str) (l : List (List Nat × List (List Nat))) : Prop where
  m : mg nm = some (.ref (ca mg nm))
  s : ∀ p ∈ l, ∃ A, KDct K w (ca mg nm) (SX.S p.1) (.ref A) ∧ ∀ H, SqT K H A (p.2.map fun a => V.str (SX.S a))
theorem KDt.mk' {K : PySem.W.Frag} {w : World} {mg : MG} {nm : Str} {C : Addr} {l : List (List Nat × List (List Nat))} (h : mg nm = some (.ref C)) (x : ∀ p ∈ l, ∃ A, KDct K w C (SX.S p.1) (.ref A) ∧ ∀ H, SqT K H A (p.2.map fun a => V.str (SX.S a))) : KDt K w mg nm l := by
  have e := ca_of h
  exact ⟨by rw [e]; exact h, by rw [e]; exact x⟩
theorem kdt_cons {K : PySem.W.Frag} {w : World} {C A : Addr} {k : List Nat} {v : List (List Nat)} {l : List (List Nat × List (List Nat))} (h : KDct K w C (SX.S k) (.ref A)) (h2 : ∀ H, SqT K H A (v.map fun a => V.str (SX.S a))) (t : ∀ p ∈ l, ∃ A, KDct K w C (SX.S p.1) (.ref A) ∧ ∀ H, SqT K H A (p.2.map fun a => V.str (SX.S a))) :
    ∀ p ∈ (k, v) :: l, ∃ A, KDct K w C (SX.S p.1) (.ref A) ∧ ∀ H, SqT K H A (p.2.map fun a => V.str (SX.S a)) := fun p hp => by
  rcases List.mem_cons.mp hp with e | e
  · subst e; exact ⟨A, h, h2⟩
  · exact t p e
theorem pe_kdt {X : Cx} {x : Str} {xs : List (List Nat × List (List Nat))} {pos : Pos} (hg : Gl X x) (h : KDt X.K X.w X.mg x xs) (hd : (x == ("__debug__" : Str)) = false := by decide) : PE X (.Name x pos) (tC (.ref (ca X.mg x))) := pe_glob hg h.m rfl hd
theorem ixKt {K : PySem.W.Frag} {w : World} {H : Hp} {Q : VK} {nm : Str} {mg : MG} {ls : List (List Nat × List (List Nat))} {k : List Nat} {v : List (List Nat)} (h : KDt K w mg nm ls) (m : (k, v) ∈ ls) (q : ∀ A, (∀ H, SqT K H A (v.map fun a => V.str (SX.S a))) → Q (.ref A) H) : rIxD K w (.ref (ca mg nm)) (.str (SX.S k)) H Q := by
  obtain ⟨A, h1, h2⟩ := h.s _ m
  exact ⟨_, _, _, rfl, rfl, h1, q A h2⟩
/-! ### a walk over what may be a list or a tuple -/
def iAny (K : PySem.W.Frag) (tl : TE) : TI := fun σ H R => tl σ H fun x H1 => ∃ a, x = .ref a ∧ (((∃ xs, SqL K H1 a xs) ∧ R (Itl K a) H1) ∨ ((∃ xs, SqT K H1 a xs) ∧ R (Itt K a) H1))
theorem pi_any {X : Cx} {tg l : Expr} {tl : TE} (hl : PE X l tl) : PI X tg l (iAny X.K tl) := by
  refine ⟨fun pins s σ H R I h => ?_⟩
  refine thn (hl.run pins s σ H _ I h) fun v s1 q => ?_
  obtain ⟨x, H1, I1, r1, a, rfl, q⟩ := q
  cases r1
  have f0 : ∀ b ∈ [s1.heap.objs.size], FpOk X pins H1 b := fun b hb => by
    obtain rfl : b = s1.heap.objs.size := by simpa using hb
    exact I1.fpOk (Nat.le_refl _) (I1.hok.fresh (Nat.le_refl _))
  rcases q with ⟨⟨xs, hq⟩, q⟩ | ⟨⟨xs, hq⟩, q⟩
  · obtain ⟨its, rv, p, hz⟩ := I1.list hq
    exact wpAny_pyIter_list p.isList ⟨_, _, _, _, H1, rfl, I1.kept (t' := s1.toks) fun b o e => Heap.get?_push_of_some _ e, turn_list a _, ⟨_, Heap.get?_push_size _ rfl, rfl, rfl⟩, f0, q⟩
  · obtain ⟨its, rv, p, hz⟩ := I1.tuple hq
    exact wpAny_pyIter_tuple (show s1.heap.IsTuple a its.toArray from p) ⟨_, _, _, _, H1, rfl, I1.kept (t' := s1.toks) fun b o e => Heap.get?_push_of_some _ e, turn_tuple a _, ⟨_, Heap.get?_push_size _ rfl, rfl, rfl⟩, f0, q⟩
def SqA (K : PySem.W.Frag) (H : Hp) (a : Addr) (xs : List V) : Prop := SqL K H a xs ∨ SqT K H a xs
theorem SqA.same {K : PySem.W.Frag} {H H' : Hp} {a : Addr} {xs : List V} (e : Same H H') (h : SqA K H a xs) : SqA K H' a xs := h.imp (sql e) (sqt e)
theorem walkA {K : PySem.W.Frag} {tl : TE} {σ : L2.St} {H : Hp} {R : It → Hp → Prop} (h : tl σ H fun x H1 => ∃ a, x = .ref a ∧ (((∃ xs, SqL K H1 a xs) ∧ R (Itl K a) H1) ∨ ((∃ xs, SqT K H1 a xs) ∧ R (Itt K a) H1))) : iAny K tl σ H R := h
/-- for x in a list or a tuple that stays -/
theorem for_seq {K : PySem.W.Frag} {a : Addr} {xs : List V} {g : TG} {tb : TS} {D : Ends} {σ : L2.St} {H0 H : Hp} (hs : SqA K H0 a xs) (Pv : Nat → L2.St → Hp → Prop) (h0 : Pv 0 σ H) (hk : ∀ i σ' H', i ≤ xs.length → Pv i σ' H' → Same H0 H')
    (ht : ∀ (i : Nat) x σ' H', xs[i]? = some x → Pv i σ' H' → g x σ' H' fun σ2 H2 => tb { D with nx := Pv (i + 1), ct := Pv (i + 1), bk := D.nx } σ2 H2) (hd : ∀ σ' H', Pv xs.length σ' H' → D.nx σ' H') :
    ∃ a', V.ref a = .ref a' ∧ (((∃ xs, SqL K H a' xs) ∧ ∃ W : Nat → Nat → L2.St → Hp → Prop, (∃ m, W 0 m σ H) ∧ ∀ i m σ H, W i m σ H →
      ((Itl K a').stop i H ∧ D.nx σ H) ∨ ((Itl K a').go i H ∧ ∃ N : L2.St → Hp → Prop, (∀ σ' H', N σ' H' → ∃ m', m' < m ∧ W (i + 1) m' σ' H') ∧ ∀ x H', (Itl K a').yld i H x H' → g x σ H' fun σ2 H2 => tb { D with nx := N, ct := N, bk := D.nx } σ2 H2)) ∨
      ((∃ xs, SqT K H a' xs) ∧ ∃ W : Nat → Nat → L2.St → Hp → Prop, (∃ m, W 0 m σ H) ∧ ∀ i m σ H, W i m σ H →
      ((Itt K a').stop i H ∧ D.nx σ H) ∨ ((Itt K a').go i H ∧ ∃ N : L2.St → Hp → Prop, (∀ σ' H', N σ' H' → ∃ m', m' < m ∧ W (i + 1) m' σ' H') ∧ ∀ x H', (Itt K a').yld i H x H' → g x σ H' fun σ2 H2 => tb { D with nx := N, ct := N, bk := D.nx } σ2 H2))) := by
  refine ⟨a, rfl, ?_⟩
  rcases hs with hs | hs
  · exact .inl ⟨⟨xs, sql (hk 0 σ H (Nat.zero_le _) h0) hs⟩, for_list Pv h0 (fun i σ' H2 hi p => sql (hk i σ' H2 hi p) hs) ht hd⟩
  · exact .inr ⟨⟨xs, sqt (hk 0 σ H (Nat.zero_le _) h0) hs⟩, for_tup Pv h0 (fun i σ' H2 hi p => sqt (hk i σ' H2 hi p) hs) ht hd⟩
/-! ### a loop over zip of two tuples of one length -/
theorem for_zipT {K : PySem.W.Frag} {a b : Addr} {xs ys : List V} {g : TG} {tb : TS} {D : Ends} {σ : L2.St} {H : Hp} (hl : xs.length = ys.length) (Pv : Nat → L2.St → Hp → Prop) (h0 : Pv 0 σ H) (hq : ∀ i σ H, Pv i σ H → SqT K H a xs ∧ SqT K H b ys)
    (hs : ∀ (i : Nat) (x y : V) (T : Addr) (σ : L2.St) (H : Hp), xs[i]? = some x → ys[i]? = some y → Pv i σ H → H T = none → g (.ref T) σ (upd H T (.tup [x, y])) fun σ2 H2 => tb { D with nx := Pv (i + 1), ct := Pv (i + 1), bk := D.nx } σ2 H2) (hd : ∀ σ H, Pv xs.length σ H → D.nx σ H) :
    ∃ W : Nat → Nat → L2.St → Hp → Prop, (∃ m, W 0 m σ H) ∧ ∀ i m σ H, W i m σ H →
      ((RZ.ItzT K a b).stop i H ∧ D.nx σ H) ∨ ((RZ.ItzT K a b).go i H ∧ ∃ N : L2.St → Hp → Prop, (∀ σ' H', N σ' H' → ∃ m', m' < m ∧ W (i + 1) m' σ' H') ∧ ∀ v H', (RZ.ItzT K a b).yld i H v H' → g v σ H' fun σ2 H2 => tb { D with nx := N, ct := N, bk := D.nx } σ2 H2) := by
  refine ⟨fun i m σ H => i + m = xs.length ∧ Pv i σ H, ⟨_, Nat.zero_add _, h0⟩, fun i m σ H w => ?_⟩
  obtain ⟨e, p⟩ := w
  obtain ⟨qx, qy⟩ := hq i σ H p
  cases m with
  | zero =>
    obtain rfl : i = xs.length := e
    exact .inl ⟨⟨xs, ys, qx, qy, .inl (Nat.le_refl _)⟩, hd σ H p⟩
  | succ m =>
    have ex := List.getElem?_eq_getElem (show i < xs.length by omega)
    have ey := List.getElem?_eq_getElem (show i < ys.length by omega)
    refine .inr ⟨⟨xs, ys, _, _, qx, qy, ex, ey⟩, Pv (i + 1), fun σ' H' n => ⟨m, Nat.lt_succ_self m, by omega, n⟩, ?_⟩
    rintro v H' ⟨T, x, y, rfl, hT, rfl, a1, a2⟩
    exact hs i x y T σ H (a1 xs qx) (a2 ys qy) p hT
theorem zipA {K : PySem.W.Frag} {ta : TA} {σ : L2.St} {H : Hp} {R : It → Hp → Prop} (h : ta σ H fun vs H1 => ∃ a b xs ys, vs = [.ref a, .ref b] ∧ ((SqL K H1 a xs ∧ SqL K H1 b ys ∧ R (Itz K a b) H1) ∨ (SqT K H1 a xs ∧ SqT K H1 b ys ∧ R (RZ.ItzT K a b) H1))) : RZ.iZipA K ta σ H R := h
/-! ### a dict's comprehension over enumerate of a tuple -/
theorem dc_enumT {K : PySem.W.Frag} {a : Addr} {ys : List V} {g : TG} {tt : TT} {tk tv : TE} {vs : List Nat} {σ : L2.St} {H1 : Hp} {D : Addr} {Qd : Hp → Prop} (Pv : Nat → Hp → Prop) (h0 : Pv 0 (upd H1 D (.dK []))) (hl : ∀ i H, i ≤ ys.length → Pv i H → SqT K H a ys)
    (hs : ∀ (i : Nat) y H N, ys[i]? = some y → H N = none → Pv i H → g (.ref N) (wipe σ vs) (upd H N (.tup [.int ((i : Nat) : Int), y])) fun σ2 H2 => wipe σ2 vs = wipe σ vs ∧ tt σ2 H2 fun b H3 =>
      if b = true then tk σ2 H3 fun y H4 => tv σ2 H4 fun z H5 => ∃ kvs k, y = kV k ∧ H5 D = some (.dK kvs) ∧ kvs.length < sizeLine ∧ Pv (i + 1) (upd H5 D (.dK (putK kvs k z))) else Pv (i + 1) H3) (hd : ∀ H, Pv ys.length H → Qd H) :
    ∃ W : Nat → Nat → Hp → Prop, (∃ m, W 0 m (upd H1 D (.dK []))) ∧ ∀ i m H, W i m H →
      ((WET.Itn K a).stop i H ∧ Qd H) ∨ ((WET.Itn K a).go i H ∧ ∃ Nx : Hp → Prop, (∀ H', Nx H' → ∃ m', m' < m ∧ W (i + 1) m' H') ∧ ∀ x H', (WET.Itn K a).yld i H x H' → g x (wipe σ vs) H' fun σ2 H2 => wipe σ2 vs = wipe σ vs ∧ tt σ2 H2 fun b H3 =>
        if b = true then tk σ2 H3 fun y H4 => tv σ2 H4 fun z H5 => ∃ kvs k, y = kV k ∧ H5 D = some (.dK kvs) ∧ kvs.length < sizeLine ∧ Nx (upd H5 D (.dK (putK kvs k z))) else Nx H3) := by
  refine ⟨fun i m H => i + m = ys.length ∧ Pv i H, ⟨_, Nat.zero_add _, h0⟩, fun i m H w => ?_⟩
  obtain ⟨e, p⟩ := w
  have q := hl i H (by omega) p
  cases m with
  | zero =>
    obtain rfl : i = ys.length := e
    exact .inl ⟨⟨ys, q, rfl⟩, hd H p⟩
  | succ m =>
    have ey := List.getElem?_eq_getElem (show i < ys.length by omega)
    refine .inr ⟨⟨ys, _, q, ey⟩, Pv (i + 1), fun H' n => ⟨m, Nat.lt_succ_self m, by omega, n⟩, ?_⟩
    rintro x H' ⟨N, y, rfl, hN, rfl, al⟩
    exact hs i y H N (al ys q) hN p
end WP
namespace WP
open PySem PySem.Spec PyProof.Rows L2
theorem cut1 {x : V} {xs : List V} : cutV (x :: xs) (some 1) none = xs := by
  unfold cutV
  rw [show HT.sIx (x :: xs).length 0 (some 1) = 1 from by rw [show (some (1 : Int)) = some ((1 : Nat) : Int) from rfl, HT.sIx_nat, List.length_cons]; omega, HT.sIx_none, List.drop_succ_cons, List.drop_zero, List.take_of_length_le (by rw [List.length_cons]; omega)]
theorem not_whole1 {x : V} {xs : List V} {hi : Option Int} : ¬ (HT.sIx (x :: xs).length 0 (some 1) = 0 ∧ HT.sIx (x :: xs).length (x :: xs).length hi = (x :: xs).length) := fun z => by
  have := z.1
  rw [show (some (1 : Int)) = some ((1 : Nat) : Int) from rfl, HT.sIx_nat, List.length_cons] at this
  omega
end WP
namespace WP
open PySem PySem.Spec PyProof.Rows L2
/-! ### a method of a built-in type in a comprehension's block -/
section
variable {X : Cx} {K : PySem.W.Frag} {T name id : String} {r : V → List V → Hp → VK → Prop} {o e : Expr} {es : List Expr} {to : TE} {t : TA} {apos cpos : Pos}
theorem pe_bmK (h : X.K = K) (pa : PlainAttrs T) (slot : Slot T name id) (hty : typeOf (.builtin id) = pure (.type "method_descriptor")) (hm : MtR X id r) (ho : PE X o to) (ha : PA X (e :: es) t)
    (hbase : attributeBase o name X.env (eval o X.env) = eval o X.env := by rfl)
    (hfew : ((backTo cpos (starEach (e :: es) X.env)).all (fun x => !x.1) && (backToKw cpos (keywordEach [] X.env)).all (fun x => x.1.isSome) && decide ((e :: es).length + ([] : List Keyword).length + (if ([] : List Keyword).isEmpty then 0 else 1) < 30)) = true := by rfl)
    (hline : (apos.endLine == cpos.line) = true := by rfl) (hs : starEach (e :: es) X.env = (false, eval e X.env) :: starEach es X.env := by rfl) (hplain : (backTo cpos (starEach es X.env)).any (·.1) = false := by rfl) :
    PE X (.Call (.Attribute o name apos) (e :: es) [] cpos) (tBM K T r to t) := by
  subst h
  exact pe_bm pa slot hty hm ho ha hbase hfew hline hs hplain
theorem mt_indexK (h : X.K = K) : MtR X "list.index" (rIndex K) := by subst h; exact mt_index
end
end WP

namespace WS
open PySem PySem.Spec PyProof.Rows L2
/-! ### a clause of a comprehension, whatever is done behind its tests; sets of ints by two clauses -/
def clause (tg : Expr) (ifs : List Expr) (p : Pos) (it : Value) (env : Env) (B : Sem PySem.Fin) (c : Code) : Sem PySem.Fin := do
  standAt p
  match ← pyNext it with
  | none => pure (.done .next)
  | some v =>
    letOwnedTupleGo tg it v
    assign tg env v
    let mut ok := true
    for c in ifs do
      if ok then ok ← isTrue c env (eval c env)
    if ok then B
    else again c
/-- the slots τ know all that σ knows -/
structure Kn (σ τ : L2.St) : Prop where
  l : σ.length = τ.length
  k : ∀ (j : Nat) v, σ[j]? = some (some v) → τ[j]? = some (some v)
theorem Kn.wipe {σ τ : L2.St} {vs : List Nat} (e : wipe τ vs = wipe σ vs) : Kn (wipe σ vs) τ := ⟨by rw [← e, wipe_length], fun j v h => by rw [← e] at h; exact (wipe_some h).1⟩
theorem Kn.trans {a b c : L2.St} (x : Kn a b) (y : Kn b c) : Kn a c := ⟨x.l.trans y.l, fun j v h => y.k j v (x.k j v h)⟩
theorem wipe_outside {σ : L2.St} {i : Nat} {vs : List Nat} (h : i ∉ vs) : (wipe σ vs)[i]? = σ[i]? := L2.wipe_out h
/-- one clause's loop: Bk is its reading behind the tests -/
theorem loop {Y : Cx} {node tg : Expr} {k : Nat} {ifs : List Expr} {p : Pos} {it : Addr} {acc : Value} {B : Sem PySem.Fin} {R : Result → Shared → Prop} {J : It} {fp : List Addr} {tn : Nat → Heap → Prop} {pins : List (Addr × Obj)} {σ : L2.St} {g : TG} {tt : TT}
    {KW : L2.St → Prop} {Bk : L2.St → Hp → (Hp → Prop) → Prop} {Qd : Hp → Prop} {W : Nat → Nat → Hp → Prop}
    (hq : (Code.compLoop node k (.ref it) acc Y.env).quiet = true)
    (hd : ∀ {M : Model} {A : Around} {E Q} {s : Shared}, wpAny M A (compTurn node k (.ref it) acc Y.env) Q (notedBy M A Y.env E) s → wpAny M A ((compTurn node k (.ref it) acc Y.env).onRaise fun x => do noteFrame x Y.env; theTreesLotGoes x) Q E s)
    (hB : compTurn node k (.ref it) acc Y.env = clause tg ifs p (.ref it) Y.env B (.compLoop node k (.ref it) acc Y.env))
    (hden : (model Y.prog Y.w).den (.compLoop node k (.ref it) acc Y.env) = (compTurn node k (.ref it) acc Y.env).onRaise fun x => do noteFrame x Y.env; theTreesLotGoes x)
    (hun : Y.A.under (.compLoop node k (.ref it) acc Y.env) = Y.A)
    (hx : Y.xe = fun _ _ => False) (hkw : ∀ τ, KW τ → Kn σ τ) (hc : Y.calm = true) (T : Turn Y.prog Y.w Y.K tg J fp it tn) (pg : PG Y tg g) (pt : PTs Y ifs tt)
    (hb : ∀ {pl : List (Addr × Obj)} {τ : L2.St} {G : Hp} {s : Shared} {Nx : Hp → Prop}, Inv Y (pins ++ pl) τ G s → Kn σ τ → Bk τ G Nx → wpAny (model Y.prog Y.w) Y.A B (fun fin s' => fin = .again (.compLoop node k (.ref it) acc Y.env) ∧ ∃ τ' G', Inv Y (pins ++ pl) τ' G' s' ∧ Kn σ τ' ∧ Nx G') (fun _ _ => False) s)
    (step : ∀ i m H, W i m H → (J.stop i H ∧ Qd H) ∨ (J.go i H ∧ ∃ Nx : Hp → Prop, (∀ H', Nx H' → ∃ m', m' < m ∧ W (i + 1) m' H') ∧ ∀ x H', J.yld i H x H' → g x σ H' fun τ G => KW τ ∧ tt τ G fun b G' => if b = true then Bk τ G' Nx else Nx G'))
    (fin : ∀ {G : Hp} {s : Shared}, Inv Y pins σ G s → Qd G → R (.ok .next) s)
    {m : Nat} {H : Hp} {s : Shared} (I : Inv Y pins σ H s) (st : tn 0 s.heap) (f : ∀ b ∈ fp, FpOk Y pins H b) (w0 : W 0 m H) :
    codeAny (model Y.prog Y.w) Y.A (.compLoop node k (.ref it) acc Y.env) R s := by
  have ff : ∀ {G : Hp}, (∀ b ∈ fp, G b = none) → ∀ b ∈ fp, FpOk Y pins G b := fun n b hb => ⟨n b hb, (f b hb).2⟩
  refine codeAny_loop hq (fun m s => ∃ i G, Inv Y pins σ G s ∧ tn i s.heap ∧ (∀ b ∈ fp, G b = none) ∧ W i m G) ?_ m ⟨0, H, I, st, fun b hb => (f b hb).1, w0⟩
  rintro m s1 ⟨i, G, I1, st1, n1, w1⟩
  rw [hden, hun]
  refine hd ?_
  rw [hB]
  refine wpAny_bind (wpAny_standAt (wpAny_bind ?_))
  rcases step i m G w1 with ⟨stop, q⟩ | ⟨go, Nx, hN, next⟩
  · refine thnF (T.done Y rfl rfl rfl hc i pins s1 σ G (fun _ _ => False) I1 (ff n1) st1 stop) fun r s2 h => ?_
    obtain ⟨rfl, I2⟩ := h
    exact wpAny_pure (fin I2 q)
  · refine thnF (T.item Y rfl rfl rfl hc i pins s1 σ G (fun _ _ => False) I1 (ff n1) st1 go) fun r s2 h => ?_
    obtain ⟨u, rfl, h⟩ := h
    refine wpAny_bind (thnF h fun _ s3 h => ?_)
    obtain ⟨x, G3, I3, r3, y3, st3, n3⟩ := h
    have I4 := I3.pinned (ff n3) (T.obj _ _ st3)
    have e1 := pg.run _ s3 σ G3 x u _ I4 r3 (next x G3 y3)
    rw [hx] at e1
    refine wpAny_bind (thnF e1 fun _ s5 h => ?_)
    obtain ⟨τ, G5, I5, k5, q5⟩ := h
    have k5 := hkw τ k5
    have e2 := pt.run _ s5 τ G5 _ I5 q5
    rw [hx] at e2
    refine wpAny_bind (thnF e2 fun b s6 h => ?_)
    obtain ⟨G6, I6, q6⟩ := h
    have back : ∀ {τ' : L2.St} {G' : Hp} {s' : Shared}, Inv Y (pins ++ pinsAt fp s3.heap) τ' G' s' → Kn σ τ' → Nx G' → ∃ m', m' < m ∧ ∃ i G, Inv Y pins σ G s' ∧ tn i s'.heap ∧ (∀ b ∈ fp, G b = none) ∧ W i m' G := by
      intro τ' G' s' I' kn nx
      obtain ⟨m', lt, w'⟩ := hN G' nx
      have pin : ∀ b ∈ fp, ∀ o, s3.heap.get? b = some o → s'.heap.get? b = some o ∧ G' b = none := fun b hb o e => by
        have z := I'.pin (b, o) (List.mem_append_right _ (List.mem_append_right _ (mem_pinsAt hb e)))
        exact ⟨z.1, z.2.1⟩
      refine ⟨m', lt, i + 1, G', I'.unpinned.weak kn.l kn.k, T.keep _ _ _ st3 fun b hb o e => (pin b hb o e).1, fun b hb => ?_, w'⟩
      obtain ⟨o, e, _⟩ := T.obj _ _ st3 b hb
      exact (pin b hb o e).2
    cases b with
    | false =>
      rw [if_neg Bool.false_ne_true] at q6
      exact wpAny_pure ⟨rfl, back I6 k5 q6⟩
    | true =>
      rw [if_pos rfl] at q6
      refine thnF (hb I6 k5 q6) fun _ s7 h => ?_
      obtain ⟨rfl, τ', G', I7, k7, nx⟩ := h
      exact ⟨rfl, back I7 k7 nx⟩

section
variable {prog : Program} {w : World} {A : Around} {R : Result → Shared → Prop} {s : Shared} {elt t0 i0 t1 i1 : Expr} {ifs0 ifs1 : List Expr} {scope : Scope} {pos : Pos} {it acc : Value} {env : Env}
/-- what the first clause does behind its tests -/
def bodyO (node i1 : Expr) (acc : Value) (env : Env) (c : Code) : Sem PySem.Fin := do
  let x ← eval i1 env
  standAt i1.pos
  let x ← foldedSetIterable i1 env x
  let _ ← runOwn (.compStart node 1 (← holding [x] (pyIter x)) acc env) env
  again c
/-- and the second -/
def bodyI (elt : Expr) (acc : Value) (env : Env) (c : Code) : Sem PySem.Fin := do
  (do let v ← eval elt env; standAt elt.pos; let _ ← call (.builtin "set.add") [acc, v])
  again c
theorem turnO : compTurn (.SetComp elt [⟨t0, i0, ifs0, 0⟩, ⟨t1, i1, ifs1, 0⟩] scope pos) 0 it acc env = clause t0 ifs0 i0.pos it env (bodyO (.SetComp elt [⟨t0, i0, ifs0, 0⟩, ⟨t1, i1, ifs1, 0⟩] scope pos) i1 acc env (.compLoop (.SetComp elt [⟨t0, i0, ifs0, 0⟩, ⟨t1, i1, ifs1, 0⟩] scope pos) 0 it acc env)) (.compLoop (.SetComp elt [⟨t0, i0, ifs0, 0⟩, ⟨t1, i1, ifs1, 0⟩] scope pos) 0 it acc env) := by rfl
theorem turnI : compTurn (.SetComp elt [⟨t0, i0, ifs0, 0⟩, ⟨t1, i1, ifs1, 0⟩] scope pos) 1 it acc env = clause t1 ifs1 i1.pos it env (bodyI elt acc env (.compLoop (.SetComp elt [⟨t0, i0, ifs0, 0⟩, ⟨t1, i1, ifs1, 0⟩] scope pos) 1 it acc env)) (.compLoop (.SetComp elt [⟨t0, i0, ifs0, 0⟩, ⟨t1, i1, ifs1, 0⟩] scope pos) 1 it acc env) := by rfl
/-- the second clause's start -/
theorem start1 (h : codeAny (model prog w) A (.compLoop (.SetComp elt [⟨t0, i0, ifs0, 0⟩, ⟨t1, i1, ifs1, 0⟩] scope pos) 1 it acc env) R s)
    (hi : wpAny (model prog w) A (pyIter it) (fun it' s' => codeAny (model prog w) A (.compLoop (.SetComp elt [⟨t0, i0, ifs0, 0⟩, ⟨t1, i1, ifs1, 0⟩] scope pos) 1 it' acc env) R s') (notedBy (model prog w) A env fun x s' => R (.error x) s') s) :
    codeAny (model prog w) A (.compStart (.SetComp elt [⟨t0, i0, ifs0, 0⟩, ⟨t1, i1, ifs1, 0⟩] scope pos) 1 it acc env) R s := by
  have d : (model prog w).den (.compStart (.SetComp elt [⟨t0, i0, ifs0, 0⟩, ⟨t1, i1, ifs1, 0⟩] scope pos) 1 it acc env) = (compStart (.SetComp elt [⟨t0, i0, ifs0, 0⟩, ⟨t1, i1, ifs1, 0⟩] scope pos) 1 it acc env).onRaise (fun x => (do noteFrame x env; standAt theWindowsPlace)) := rfl
  refine codeAny_of_tree ?_
  rw [d]
  refine wpAny_notedAt ?_
  unfold compStart
  refine wpAny_bind (wpAny_askSetting (wpAny_ite ?_))
  split
  · first
      | exact wpAny_bind (wpAny_pure (wpAny_pure ⟨rfl, h⟩))
      | exact wpAny_pure ⟨rfl, h⟩
  · have fin : wpAny (model prog w) A (pyIter it) (fun it' s' => wpAny (model prog w) A (again (.compLoop (.SetComp elt [⟨t0, i0, ifs0, 0⟩, ⟨t1, i1, ifs1, 0⟩] scope pos) 1 it' acc env)) (fun fin s' => match fin with | .done f => R (.ok f) s' | .again c' => c'.quiet = true ∧ codeAny (model prog w) A c' R s') (notedBy (model prog w) A env fun x s' => R (.error x) s') s') (notedBy (model prog w) A env fun x s' => R (.error x) s') s :=
      thn hi fun it' s' q => wpAny_pure ⟨rfl, q⟩
    exact wpAny_bind (wpAny_rule (wpAny_bind (wpAny_standAt (wpAny_bind fin))))
end
section
variable {X : Cx}
/-- the second clause's reading: D the set, Nx what the first clause goes on with -/
def tIn (w : World) (D : Addr) (wi : TI) (g : TG) (tt : TT) (te : TE) (vs : List Nat) (τ : L2.St) (G : Hp) (Nx : Hp → Prop) : Prop := wi τ G fun J G1 => ∃ W : Nat → Nat → Hp → Prop, (∃ m, W 0 m G1) ∧ ∀ i m H, W i m H →
  (J.stop i H ∧ Nx H) ∨ (J.go i H ∧ ∃ N1 : Hp → Prop, (∀ H', N1 H' → ∃ m', m' < m ∧ W (i + 1) m' H') ∧ ∀ x H', J.yld i H x H' → g x (wipe τ vs) H' fun ρ G2 => wipe ρ vs = wipe τ vs ∧ tt ρ G2 fun b G3 =>
    if b = true then te ρ G3 fun y G4 => ∃ (k : Int) (S : Int → Bool) (n : Nat), y = .int k ∧ G4 D = some (SetO w D S n) ∧ n + 1 < scanBound ∧ N1 (upd G4 D (SetO w D (fun j => S j || decide (j = k)) (if S k = true then n else n + 1))) else N1 G3)
/-- {elt for tg in iter if .. for tg1 in iter1 if ..}, elt an int: D the new set; vs: the block's names, vs1: those of the second target -/
def tSc2 (w : World) (wi : TI) (g : TG) (tt : TT) (wi1 : TI) (g1 : TG) (tt1 : TT) (te : TE) (vs vs1 : List Nat) : TE := fun σ H Q => wi σ H fun J H1 => ∀ D, H1 D = none → ∃ W : Nat → Nat → Hp → Prop, (∃ m, W 0 m (upd H1 D (SetO w D (fun _ => false) 0))) ∧ ∀ i m H, W i m H →
  (J.stop i H ∧ Q (.ref D) H) ∨ (J.go i H ∧ ∃ Nx : Hp → Prop, (∀ H', Nx H' → ∃ m', m' < m ∧ W (i + 1) m' H') ∧ ∀ x H', J.yld i H x H' → g x (wipe σ vs) H' fun τ G => wipe τ vs = wipe σ vs ∧ tt τ G fun b G' =>
    if b = true then tIn w D wi1 g1 tt1 te vs1 τ G' Nx else Nx G')
/-- set.add of an int -/
theorem add_ok {pins : List (Addr × Obj)} {σ : L2.St} {H : Hp} {s : Shared} {D : Addr} {S : Int → Bool} {n : Nat} {k : Int} {u : Value} {Q : Value → Shared → Prop} (I : Inv X pins σ H s) (hD : H D = some (SetO X.w D S n)) (hz : n + 1 < scanBound) (r : RelV (.int k) u)
    (h : ∀ s', Inv X pins σ (upd H D (SetO X.w D (fun j => S j || decide (j = k)) (if S k = true then n else n + 1))) s' → Q .none s') : wpAny (model X.prog X.w) X.A (call (.builtin "set.add") [.ref D, u]) Q X.xe s :=
  thn (mt_sadd pins s σ H (.ref D) [.int k] (.ref D) [u] (fun v G => v = .non ∧ G = upd H D (SetO X.w D (fun j => S j || decide (j = k)) (if S k = true then n else n + 1))) I rfl (.cons r .nil) ⟨D, k, S, n, rfl, rfl, hD, hz, rfl, rfl⟩) fun v s' q => by
    obtain ⟨x, G, I', rx, rfl, rfl⟩ := q
    cases rx
    exact h s' I'
theorem blk_f {own : List (PySem.Str × Nat)} {vs1 : List Nat} {σ τ : L2.St} (hv : ∀ i ∈ vs1, i ∈ own.map (·.2)) (h : Kn (wipe σ (own.map (·.2))) τ) : Kn (wipe σ (own.map (·.2))) (wipe τ vs1) :=
  ⟨h.l.trans (wipe_length _ _).symm, fun j v e => by
    have z := (wipe_some e).2
    rw [wipe_outside fun m => z (hv j m)]
    exact h.k j v e⟩
/-- as a value -/
theorem pe_sc2 {elt tg iter tg1 iter1 : Expr} {ifs ifs1 : List Expr} {scope : Scope} {own : List (PySem.Str × Nat)} {vs1 : List Nat} {pos : Pos} {wi wi1 : TI} {g g1 : TG} {tt tt1 : TT} {te : TE} (hc : X.calm = true) (hN : X.N.Nodup) (hi : PI X tg iter wi) (ok : BlkOk X.N X.env.scope scope own) (hv : ∀ i ∈ vs1, i ∈ own.map (·.2))
    (hg : ∀ (s : Shared) (H : Hp) (C : Addr) (cl : List (PySem.Str × Addr)) (fp : List Addr), PG (X.blk s H scope (compEnvC scope cl C X.env) fp) tg g) (ht : ∀ (s : Shared) (H : Hp) (C : Addr) (cl : List (PySem.Str × Addr)) (fp : List Addr), PTs (X.blk s H scope (compEnvC scope cl C X.env) fp) ifs tt)
    (hi1 : ∀ (s : Shared) (H : Hp) (C : Addr) (cl : List (PySem.Str × Addr)) (fp : List Addr), PI (X.blk s H scope (compEnvC scope cl C X.env) fp) tg1 iter1 wi1)
    (hg1 : ∀ (s : Shared) (H : Hp) (C : Addr) (cl : List (PySem.Str × Addr)) (fp : List Addr), PG (X.blk s H scope (compEnvC scope cl C X.env) fp) tg1 g1) (ht1 : ∀ (s : Shared) (H : Hp) (C : Addr) (cl : List (PySem.Str × Addr)) (fp : List Addr), PTs (X.blk s H scope (compEnvC scope cl C X.env) fp) ifs1 tt1)
    (he : ∀ (s : Shared) (H : Hp) (C : Addr) (cl : List (PySem.Str × Addr)) (fp : List Addr), PE (X.blk s H scope (compEnvC scope cl C X.env) fp) elt te) (hs : ∀ x, foldedSetIterable iter X.env x = pure x := by intro _; rfl) (hs1 : ∀ env x, foldedSetIterable iter1 env x = pure x := by intro _ _; rfl) :
    PE X (.SetComp elt [⟨tg, iter, ifs, 0⟩, ⟨tg1, iter1, ifs1, 0⟩] scope pos) (tSc2 X.w wi g tt wi1 g1 tt1 te (own.map (·.2)) vs1) := by
  refine ⟨fun pins s σ H Q I h => ?_⟩
  rw [PpSet.eval_SetComp]
  refine wpAny_comprehension_free (use := none) rfl hs (closure_ok fun y hy e => (ok.free y hy e).elim (fun k => I.ok.has _ (.inl k)) fun k => I.ok.has _ (.inr k)) ok.kind (fun y hy e => by rw [ok.uniq y hy, e]) (thn (hi.run pins s σ H _ I h) fun xv s1 hx => thn hx fun itv s2 h2 => ?_)
  obtain ⟨it, fp, tn, J, H2, rfl, I2, T, st2, f2, q⟩ := h2
  refine PpSet.newSet_ok (newEnv_comp ?_)
  have hDn : H2 s2.heap.objs.size = none := I2.hok.fresh (Nat.le_refl _)
  obtain ⟨W, ⟨m0, w0⟩, turn⟩ := q _ hDn
  have big : ∀ b ∈ fp, b < s2.heap.objs.size := fun b hb => by
    obtain ⟨o, e, _⟩ := T.obj _ _ st2 b hb
    exact Heap.lt_size e
  generalize hs3 : ({ s2 with heap := s2.heap.push { cls := .type "set", dict := none, data := .set #[] 0 (.fresh 0 0 (!X.w.params.followText "set-order")) } } : Shared) = s3
  have e3 : s3.heap = s2.heap.push { cls := .type "set", dict := none, data := .set #[] 0 (.fresh 0 0 (!X.w.params.followText "set-order")) } := by rw [← hs3]
  have I3 : Inv X pins σ (upd H2 s2.heap.objs.size (SetO X.w s2.heap.objs.size (fun _ => false) 0)) s3 := by
    rw [← hs3]
    exact I2.laid (t' := s2.toks) (fun b o e => Heap.get?_push_of_some _ e) (Nat.le_refl _) (setO_new (setR_fresh X.w))
  have f3 : ∀ b ∈ fp, FpOk X pins (upd H2 s2.heap.objs.size (SetO X.w s2.heap.objs.size (fun _ => false) 0)) b ∧ b < s3.heap.objs.size := fun b hb => by
    have lt := big b hb
    exact ⟨⟨by rw [upd_ne (Nat.ne_of_lt lt)]; exact (f2 b hb).1, (f2 b hb).2⟩, by rw [e3, Heap.size_push]; exact Nat.lt_succ_of_lt lt⟩
  have st3 : tn 0 s3.heap := T.keep _ _ _ st2 fun b _ o e => by rw [e3]; exact Heap.get?_push_of_some _ e
  have I4 := block_start I3 ok hN f3
  generalize hH3 : upd H2 s2.heap.objs.size (SetO X.w s2.heap.objs.size (fun _ => false) 0) = H3 at I3 I4 w0 f3
  generalize hD : s2.heap.objs.size = D at turn hH3 ⊢
  have st4 : tn 0 (pushCells (s3.heap.push { cls := .type "dict", data := .dict #[] }) scope.names) := T.keep _ _ _ st3 fun b _ o e => pushCells_keeps _ _ _ _ (Heap.get?_push_of_some _ e)
  have pg := hg s3 H3 s3.heap.objs.size (cellsFrom (s3.heap.objs.size + 1) scope.names (cloFrom X.env.cells scope.names [])) fp
  have pt := ht s3 H3 s3.heap.objs.size (cellsFrom (s3.heap.objs.size + 1) scope.names (cloFrom X.env.cells scope.names [])) fp
  have pe := he s3 H3 s3.heap.objs.size (cellsFrom (s3.heap.objs.size + 1) scope.names (cloFrom X.env.cells scope.names [])) fp
  have pi1 := hi1 s3 H3 s3.heap.objs.size (cellsFrom (s3.heap.objs.size + 1) scope.names (cloFrom X.env.cells scope.names [])) fp
  have pg1 := hg1 s3 H3 s3.heap.objs.size (cellsFrom (s3.heap.objs.size + 1) scope.names (cloFrom X.env.cells scope.names [])) fp
  have pt1 := ht1 s3 H3 s3.heap.objs.size (cellsFrom (s3.heap.objs.size + 1) scope.names (cloFrom X.env.cells scope.names [])) fp
  show codeAny _ _ (.compStart (.SetComp elt [⟨tg, iter, ifs, 0⟩, ⟨tg1, iter1, ifs1, 0⟩] scope pos) 0 (.ref it) (.ref D) (compEnvC scope (cellsFrom (s3.heap.objs.size + 1) scope.names (cloFrom X.env.cells scope.names [])) s3.heap.objs.size X.env)) (compPost (model X.prog X.w) X.A X.xe none _ (.ref D) s3.heap.objs.size) { s3 with heap := pushCells (s3.heap.push { cls := .type "dict", data := .dict #[] }) scope.names }
  generalize hce : compEnvC scope (cellsFrom (s3.heap.objs.size + 1) scope.names (cloFrom X.env.cells scope.names [])) s3.heap.objs.size X.env = ce at I4 pg pt pe pi1 pg1 pt1 ⊢
  have cL : ce.locals = s3.heap.objs.size := by subst hce; rfl
  generalize hs4 : ({ s3 with heap := pushCells (s3.heap.push { cls := .type "dict", data := .dict #[] }) scope.names } : Shared) = s4 at I4 ⊢
  have st4 : tn 0 s4.heap := by rw [← hs4]; exact st4
  have f4 : ∀ b ∈ fp, FpOk (X.blk s3 H3 scope ce fp) [] H3 b := fun b hb =>
    ⟨(f3 b hb).1.1, (I4.ok.exf b hb).1, I4.ok.exfs b hb, .inl hb, fun x c e => (I4.ok.exf b hb).2 x c e, fun p hp => absurd (show p ∈ ([] : List (Addr × Obj)) ++ [] from hp) (by simp)⟩
  have go : codeAny (model X.prog X.w) X.A (.compLoop (.SetComp elt [⟨tg, iter, ifs, 0⟩, ⟨tg1, iter1, ifs1, 0⟩] scope pos) 0 (.ref it) (.ref D) ce) (compPost (model X.prog X.w) X.A X.xe none (EP X pins σ Q) (.ref D) s3.heap.objs.size) s4 := by
    refine loop (Y := X.blk s3 H3 scope ce fp) (pins := []) (σ := wipe σ (own.map (·.2))) (KW := fun τ => wipe τ (own.map (·.2)) = wipe σ (own.map (·.2))) (Bk := tIn X.w D wi1 g1 tt1 te vs1) (Qd := Q (.ref D)) (W := W) rfl (fun h => wpAny_noted h) turnO rfl rfl rfl (fun τ e => Kn.wipe e) hc T pg pt ?_ turn ?_ I4 st4 f4 w0
    · intro pl τ G s5 Nx I5 k5 q5
      unfold bodyO
      refine wpAny_bind (thnF (pi1.run _ s5 τ G _ I5 q5) fun xv s6 h6 => ?_)
      refine wpAny_bind (wpAny_standAt (wpAny_bind (wpAny_of_eq (hs1 ce xv) (wpAny_bind (wpAny_holding (thn h6 fun itv1 s7 h7 => ?_))))))
      obtain ⟨it1, fp1, tn1, J1, G7, rfl, I7, T1, st7, f7, W1, ⟨m1, w1⟩, turn1⟩ := h7
      refine wpAny_bind (wpAny_runOwn ?_)
      rw [Around.mark_none]
      have go1 : codeAny (model X.prog X.w) X.A (.compLoop (.SetComp elt [⟨tg, iter, ifs, 0⟩, ⟨tg1, iter1, ifs1, 0⟩] scope pos) 1 (.ref it1) (.ref D) ce)
          (fun r s' => match r with | .ok _ => ∃ τ' G', Inv (X.blk s3 H3 scope ce fp) ([] ++ pl) τ' G' s' ∧ Kn (wipe σ (own.map (·.2))) τ' ∧ Nx G' | .error _ => False) s7 := by
        refine loop (Y := X.blk s3 H3 scope ce fp) (pins := [] ++ pl) (σ := wipe τ vs1) (KW := fun ρ => wipe ρ vs1 = wipe τ vs1) (Bk := fun ρ G3 N1 => te ρ G3 fun y G4 => ∃ (k : Int) (S : Int → Bool) (n : Nat), y = .int k ∧ G4 D = some (SetO X.w D S n) ∧ n + 1 < scanBound ∧ N1 (upd G4 D (SetO X.w D (fun j => S j || decide (j = k)) (if S k = true then n else n + 1)))) (Qd := Nx) (W := W1) rfl (fun h => wpAny_noted h) turnI rfl rfl rfl (fun ρ e => Kn.wipe e) hc T1 pg1 pt1 ?_ turn1 ?_ (I7.weak (wipe_length _ _) fun j v e => (wipe_some e).1) st7 f7 w1
        · intro pl2 ρ G8 s8 N1 I8 k8 q8
          unfold bodyI
          refine wpAny_bind (wpAny_bind (thnF (pe.run _ s8 ρ G8 _ I8 q8) fun u s9 h9 => ?_))
          obtain ⟨y, G9, I9, r9, k, S, n, rfl, hD9, hz9, n1⟩ := h9
          refine wpAny_bind (wpAny_standAt (wpAny_bind ?_))
          exact add_ok (X := X.blk s3 H3 scope ce fp) I9 hD9 hz9 r9 fun s10 I10 => wpAny_pure (wpAny_pure ⟨rfl, ρ, _, I10, k8, n1⟩)
        · intro G8 s8 I8 nx
          exact ⟨_, G8, I8, blk_f hv k5, nx⟩
      refine codeAny_mono (start1 go1 (T1.self X.A 0 _ _ _ st7 go1)) fun r s8 hr => ?_
      cases r with
      | ok f => exact wpAny_pure ⟨rfl, hr⟩
      | error e => exact hr.elim
    · intro G s5 I5 q5
      have I7 : Inv X pins σ G s5 := I3.call' (ch := fp) I5.os I5.base I5.hok I5.bare fun b hb => ⟨(f3 b hb).1.2.2.2.1, (f3 b hb).1.2.1, (f3 b hb).1.2.2.2.2.1, (f3 b hb).1.2.2.2.2.2⟩
      have nC : G s3.heap.objs.size = none := by rw [← cL]; exact I5.free
      obtain ⟨m, hn, _⟩ := I5.loc
      have hn : s5.heap.Ns ce.locals m := hn
      rw [cL] at hn
      have fC := I3.fpOk (Nat.le_refl _) nC
      obtain ⟨f0, f1, f2, f3, f4, f5⟩ := fC
      exact ⟨m, hn, fun h'' sb => ⟨.ref D, G, I7.turned (t' := s5.toks) (fun b o hb e => (sb.2 b hb).trans e) f0 f1 f3 f4 f5, rfl, q5⟩⟩
  exact PpSet.codeAny_compStart_set go (T.self X.A 0 _ _ _ st4 go)
end
end WS

namespace WP
open PySem PySem.Spec PyProof.Rows L2
theorem sc2 {w : World} {wi : TI} {g : TG} {tt : TT} {wi1 : TI} {g1 : TG} {tt1 : TT} {te : TE} {vs vs1 : List Nat} {σ : L2.St} {H : Hp} {Q : VK} (h : wi σ H fun J H1 => ∀ D, H1 D = none → ∃ W : Nat → Nat → Hp → Prop, (∃ m, W 0 m (upd H1 D (SetO w D (fun _ => false) 0))) ∧ ∀ i m H, W i m H →
  (J.stop i H ∧ Q (.ref D) H) ∨ (J.go i H ∧ ∃ Nx : Hp → Prop, (∀ H', Nx H' → ∃ m', m' < m ∧ W (i + 1) m' H') ∧ ∀ x H', J.yld i H x H' → g x (wipe σ vs) H' fun τ G => wipe τ vs = wipe σ vs ∧ tt τ G fun b G' =>
    if b = true then WS.tIn w D wi1 g1 tt1 te vs1 τ G' Nx else Nx G')) : WS.tSc2 w wi g tt wi1 g1 tt1 te vs vs1 σ H Q := h
/-- over a list that stays -/
theorem sc_list {w : World} {K : PySem.W.Frag} {a : Addr} {xs : List V} {g : TG} {tt : TT} {wi1 : TI} {g1 : TG} {tt1 : TT} {te : TE} {vs vs1 : List Nat} {σ : L2.St} {H1 : Hp} {D : Addr} {Qd : Hp → Prop} (Pv : Nat → Hp → Prop) (h0 : Pv 0 (upd H1 D (SetO w D (fun _ => false) 0))) (hl : ∀ i H, i ≤ xs.length → Pv i H → SqL K H a xs)
    (hs : ∀ (i : Nat) x H, xs[i]? = some x → Pv i H → g x (wipe σ vs) H fun τ G => wipe τ vs = wipe σ vs ∧ tt τ G fun b G' => if b = true then WS.tIn w D wi1 g1 tt1 te vs1 τ G' (Pv (i + 1)) else Pv (i + 1) G') (hd : ∀ H, Pv xs.length H → Qd H) :
    ∃ W : Nat → Nat → Hp → Prop, (∃ m, W 0 m (upd H1 D (SetO w D (fun _ => false) 0))) ∧ ∀ i m H, W i m H →
      ((Itl K a).stop i H ∧ Qd H) ∨ ((Itl K a).go i H ∧ ∃ Nx : Hp → Prop, (∀ H', Nx H' → ∃ m', m' < m ∧ W (i + 1) m' H') ∧ ∀ x H', (Itl K a).yld i H x H' → g x (wipe σ vs) H' fun τ G => wipe τ vs = wipe σ vs ∧ tt τ G fun b G' => if b = true then WS.tIn w D wi1 g1 tt1 te vs1 τ G' Nx else Nx G') := by
  refine ⟨fun i m H => i + m = xs.length ∧ Pv i H, ⟨_, Nat.zero_add _, h0⟩, fun i m H p => ?_⟩
  obtain ⟨e, p⟩ := p
  have q := hl i H (by omega) p
  cases m with
  | zero =>
    obtain rfl : i = xs.length := e
    exact .inl ⟨⟨xs, q, Nat.le_refl _⟩, hd H p⟩
  | succ m =>
    have ey := List.getElem?_eq_getElem (show i < xs.length by omega)
    refine .inr ⟨⟨xs, _, q, ey⟩, Pv (i + 1), fun H' n => ⟨m, Nat.lt_succ_self m, by omega, n⟩, ?_⟩
    rintro x H' ⟨rfl, al⟩
    exact hs i x _ (al xs q) p
/-- the second clause over a range -/
theorem in_rangeT {w : World} {D : Addr} {lo : Int} {n : Nat} {g : TG} {tt : TT} {te : TE} {vs : List Nat} {τ : L2.St} {G : Hp} {Nx : Hp → Prop} (Pv : Nat → Hp → Prop) (h0 : Pv 0 G)
    (hs : ∀ i H, i < n → Pv i H → g (.int (lo + (i : Nat))) (wipe τ vs) H fun ρ G2 => wipe ρ vs = wipe τ vs ∧ tt ρ G2 fun b G3 =>
      if b = true then te ρ G3 fun y G4 => ∃ (k : Int) (S : Int → Bool) (n : Nat), y = .int k ∧ G4 D = some (SetO w D S n) ∧ n + 1 < scanBound ∧ Pv (i + 1) (upd G4 D (SetO w D (fun j => S j || decide (j = k)) (if S k = true then n else n + 1))) else Pv (i + 1) G3) (hd : ∀ H, Pv n H → Nx H) :
    ∃ W : Nat → Nat → Hp → Prop, (∃ m, W 0 m G) ∧ ∀ i m H, W i m H →
      ((Itr lo n).stop i H ∧ Nx H) ∨ ((Itr lo n).go i H ∧ ∃ N1 : Hp → Prop, (∀ H', N1 H' → ∃ m', m' < m ∧ W (i + 1) m' H') ∧ ∀ x H', (Itr lo n).yld i H x H' → g x (wipe τ vs) H' fun ρ G2 => wipe ρ vs = wipe τ vs ∧ tt ρ G2 fun b G3 =>
        if b = true then te ρ G3 fun y G4 => ∃ (k : Int) (S : Int → Bool) (n : Nat), y = .int k ∧ G4 D = some (SetO w D S n) ∧ n + 1 < scanBound ∧ N1 (upd G4 D (SetO w D (fun j => S j || decide (j = k)) (if S k = true then n else n + 1))) else N1 G3) := by
  refine ⟨fun i m H => i + m = n ∧ Pv i H, ⟨_, Nat.zero_add _, h0⟩, fun i m H p => ?_⟩
  obtain ⟨e, p⟩ := p
  cases m with
  | zero => exact .inl ⟨by show n ≤ i; omega, hd H (by rw [← e]; exact p)⟩
  | succ m =>
    refine .inr ⟨by show i < n; omega, Pv (i + 1), fun H' n => ⟨m, Nat.lt_succ_self m, by omega, n⟩, ?_⟩
    rintro x H' ⟨rfl, rfl⟩
    exact hs i _ (by omega) p
theorem tin {w : World} {D : Addr} {wi : TI} {g : TG} {tt : TT} {te : TE} {vs : List Nat} {τ : L2.St} {G : Hp} {Nx : Hp → Prop} (h : wi τ G fun J G1 => ∃ W : Nat → Nat → Hp → Prop, (∃ m, W 0 m G1) ∧ ∀ i m H, W i m H →
  (J.stop i H ∧ Nx H) ∨ (J.go i H ∧ ∃ N1 : Hp → Prop, (∀ H', N1 H' → ∃ m', m' < m ∧ W (i + 1) m' H') ∧ ∀ x H', J.yld i H x H' → g x (wipe τ vs) H' fun ρ G2 => wipe ρ vs = wipe τ vs ∧ tt ρ G2 fun b G3 =>
    if b = true then te ρ G3 fun y G4 => ∃ (k : Int) (S : Int → Bool) (n : Nat), y = .int k ∧ G4 D = some (SetO w D S n) ∧ n + 1 < scanBound ∧ N1 (upd G4 D (SetO w D (fun j => S j || decide (j = k)) (if S k = true then n else n + 1))) else N1 G3)) : WS.tIn w D wi g tt te vs τ G Nx := h
end WP

namespace MSt
open PySem PySem.Spec PyProof.Rows L2
abbrev Tx := List Nat
abbrev PP := Tx × Tx
/-! ### statements as values, with the pairs that are performed in them -/
def Cat (R : V → List PP → Prop) (vs : List V) (ps : List PP) : Prop := ∃ pss : List (List PP), pss.length = vs.length ∧ ps = pss.flatten ∧ ∀ (i : Nat) v q, vs[i]? = some v → pss[i]? = some q → R v q
theorem Cat.nil {R : V → List PP → Prop} : Cat R [] [] := ⟨[], rfl, rfl, fun i v q h _ => by simp at h⟩
theorem Cat.app {R : V → List PP → Prop} {vs us : List V} {ps qs : List PP} (a : Cat R vs ps) (b : Cat R us qs) : Cat R (vs ++ us) (ps ++ qs) := by
  obtain ⟨x, lx, rfl, hx⟩ := a
  obtain ⟨y, ly, rfl, hy⟩ := b
  refine ⟨x ++ y, by rw [List.length_append, List.length_append, lx, ly], by rw [List.flatten_append], fun i v q hv hq => ?_⟩
  rcases Nat.lt_or_ge i vs.length with h | h
  · rw [List.getElem?_append_left h] at hv
    rw [List.getElem?_append_left (by omega)] at hq
    exact hx i v q hv hq
  · rw [List.getElem?_append_right h] at hv
    rw [List.getElem?_append_right (by omega), lx] at hq
    exact hy _ v q hv hq
theorem Cat.one {R : V → List PP → Prop} {v : V} {ps : List PP} (h : R v ps) : Cat R [v] ps := ⟨[ps], rfl, by simp, fun i u q hu hq => by
  cases i with
  | zero => cases hu; cases hq; exact h
  | succ i => simp at hu⟩
theorem Cat.mono {R S : V → List PP → Prop} {vs : List V} {ps : List PP} (a : Cat R vs ps) (h : ∀ v q, R v q → S v q) : Cat S vs ps := by
  obtain ⟨x, lx, e, hx⟩ := a
  exact ⟨x, lx, e, fun i v q hv hq => h v q (hx i v q hv hq)⟩
/-- the inner statements of parts by their sorts -/
inductive Inn (K : PySem.W.Frag) (H : Hp) (I : List Tx) : List Tx → List V → List V → Prop where
  | nil : Inn K H I [] [] []
  | no {s : Tx} {ss : List Tx} {v : V} {vs bl : List V} (h : s ∉ I) (t : Inn K H I ss vs bl) : Inn K H I (s :: ss) (v :: vs) bl
  | yes {s : Tx} {ss : List Tx} {b : Addr} {us vs bl : List V} (h : s ∈ I) (hb : SqT K H b us) (t : Inn K H I ss vs bl) : Inn K H I (s :: ss) (.ref b :: vs) (us ++ bl)
theorem Inn.ix {K : PySem.W.Frag} {H : Hp} {I : List Tx} : ∀ {ss : List Tx} {vs bl : List V}, Inn K H I ss vs bl → ∃ bls : List (List V), bls.length = ss.length ∧ vs.length = ss.length ∧ bl = bls.flatten ∧
    ∀ (i : Nat) s v, ss[i]? = some s → vs[i]? = some v → (s ∉ I ∧ bls[i]? = some []) ∨ (s ∈ I ∧ ∃ b us, v = .ref b ∧ SqT K H b us ∧ bls[i]? = some us)
  | _, _, _, .nil => ⟨[], rfl, rfl, rfl, fun i s v h _ => by simp at h⟩
  | _, _, _, .no h t => by
    obtain ⟨bls, l1, l2, rfl, hi⟩ := t.ix
    refine ⟨[] :: bls, by simp [l1], by simp [l2], by simp, fun i s v hs hv => ?_⟩
    cases i with
    | zero => cases hs; exact .inl ⟨h, rfl⟩
    | succ i => exact hi i s v (by simpa using hs) (by simpa using hv)
  | _, _, _, .yes (us := us) h hb t => by
    obtain ⟨bls, l1, l2, rfl, hi⟩ := t.ix
    refine ⟨us :: bls, by simp [l1], by simp [l2], by simp, fun i s v hs hv => ?_⟩
    cases i with
    | zero => cases hs; cases hv; exact .inr ⟨h, _, _, rfl, hb, rfl⟩
    | succ i => exact hi i s v (by simpa using hs) (by simpa using hv)
theorem Inn.keep {K : PySem.W.Frag} {H H' : Hp} {I : List Tx} (k : ∀ b us, SqT K H b us → SqT K H' b us) : ∀ {ss : List Tx} {vs bl : List V}, Inn K H I ss vs bl → Inn K H' I ss vs bl
  | _, _, _, .nil => .nil
  | _, _, _, .no h t => .no h (t.keep k)
  | _, _, _, .yes h hb t => .yes h (k _ _ hb) (t.keep k)
def PERF : Tx := [112, 101, 114, 102, 111, 114, 109]
/-- v is a statement, at most n deep, in which the pairs ps are performed -/
def StA (K : PySem.W.Frag) (H : Hp) (I : List Tx) (T : List (Tx × List Tx)) : Nat → V → List PP → Prop
  | 0, _, _ => False
  | n + 1, v, ps => ∃ a, v = .ref a ∧ ((∃ f l w, SqT K H a [.str (SX.S PERF), .str (SX.S f), .str (SX.S l), w] ∧ ps = [(f, l)]) ∨
      ∃ kd ss vs bl, kd ≠ PERF ∧ (kd, ss) ∈ T ∧ SqT K H a (.str (SX.S kd) :: vs) ∧ Inn K H I ss vs bl ∧ bl.length ≤ 1000 ∧ Cat (StA K H I T n) bl ps)
theorem StA.keep {K : PySem.W.Frag} {H H' : Hp} {I : List Tx} {T : List (Tx × List Tx)} (k : ∀ b us, SqT K H b us → SqT K H' b us) : ∀ {n : Nat} {v : V} {ps : List PP}, StA K H I T n v ps → StA K H' I T n v ps
  | 0, _, _, h => h
  | n + 1, v, ps, ⟨a, e, h⟩ => by
    refine ⟨a, e, ?_⟩
    rcases h with ⟨f, l, w, h1, h2⟩ | ⟨kd, ss, vs, bl, h1, h2, h3, h4, h5, h6⟩
    · exact .inl ⟨f, l, w, k _ _ h1, h2⟩
    · exact .inr ⟨kd, ss, vs, bl, h1, h2, k _ _ h3, h4.keep k, h5, h6.mono fun v q => StA.keep k⟩
/-- pairs of texts as values -/
def PrA (K : PySem.W.Frag) (H : Hp) (rs : List V) (ps : List PP) : Prop := rs.length = ps.length ∧ ∀ (i : Nat) r q, rs[i]? = some r → ps[i]? = some q → ∃ t, r = .ref t ∧ SqT K H t [.str (SX.S q.1), .str (SX.S q.2)]
theorem PrA.nil {K : PySem.W.Frag} {H : Hp} : PrA K H [] [] := ⟨rfl, fun i r q h _ => by simp at h⟩
theorem PrA.app {K : PySem.W.Frag} {H : Hp} {rs qs : List V} {ps ts : List PP} (a : PrA K H rs ps) (b : PrA K H qs ts) : PrA K H (rs ++ qs) (ps ++ ts) := by
  refine ⟨by rw [List.length_append, List.length_append, a.1, b.1], fun i v q hv hq => ?_⟩
  have l := a.1
  rcases Nat.lt_or_ge i rs.length with h | h
  · rw [List.getElem?_append_left h] at hv
    rw [List.getElem?_append_left (by omega)] at hq
    exact a.2 i v q hv hq
  · rw [List.getElem?_append_right h] at hv
    rw [List.getElem?_append_right (by omega), ← l] at hq
    exact b.2 _ v q hv hq
theorem PrA.one {K : PySem.W.Frag} {H : Hp} {t : Addr} {f l : Tx} (h : SqT K H t [.str (SX.S f), .str (SX.S l)]) : PrA K H [.ref t] [(f, l)] := ⟨rfl, fun i r q hr hq => by
  cases i with
  | zero => cases hr; cases hq; exact ⟨t, rfl, h⟩
  | succ i => simp at hr⟩
theorem PrA.keep {K : PySem.W.Frag} {H H' : Hp} {rs : List V} {ps : List PP} (k : ∀ b us, SqT K H b us → SqT K H' b us) (a : PrA K H rs ps) : PrA K H' rs ps :=
  ⟨a.1, fun i r q hr hq => by obtain ⟨t, e, h⟩ := a.2 i r q hr hq; exact ⟨t, e, k _ _ h⟩⟩
/-- the places of the pairs -/
def IxP (ws : List Tx) (ps : List PP) : Prop := ∀ q ∈ ps, ∃ i j : Nat, i ≤ j ∧ ws[i]? = some q.1 ∧ ws[j]? = some q.2
theorem IxP.nil {ws : List Tx} : IxP ws [] := fun _ h => nomatch h
theorem IxP.app {ws : List Tx} {ps qs : List PP} (a : IxP ws ps) (b : IxP ws qs) : IxP ws (ps ++ qs) := fun q h => (List.mem_append.mp h).elim (fun z => a q z) (fun z => b q z)
theorem gotS {H : Hp} {d : Addr} {kvs : List (Key × V)} {s : Str} {v : V} (hd : H d = some (.dK kvs)) (e : valV kvs (Sum.inr s) = some v) : DGet H d (.str s) (some v) := e ▸ DGet.k (k := Sum.inr s) hd
/-- the members of a set of counts below n -/
structure Ms (n : Nat) (S : Int → Bool) (ms : List Nat) : Prop where
  nd : ms.Nodup
  lt : ∀ m ∈ ms, m < n
  s : ∀ k : Int, S k = true ↔ ∃ m ∈ ms, k = (m : Int)
theorem Ms.nil {n : Nat} : Ms n (fun _ => false) [] := ⟨List.nodup_nil, fun _ h => (List.not_mem_nil h).elim, fun k => by simp⟩
theorem nodup_le : ∀ {n : Nat} {l : List Nat}, l.Nodup → (∀ x ∈ l, x < n) → l.length ≤ n := fun {n l} h k => by
  have := MNm.sub_len (b := List.range n) h fun x hx => List.mem_range.mpr (k x hx)
  rwa [List.length_range] at this
theorem Ms.le {n : Nat} {S : Int → Bool} {ms : List Nat} (h : Ms n S ms) : ms.length ≤ n := nodup_le h.nd h.lt
def add (ms : List Nat) (m : Nat) : List Nat := if m ∈ ms then ms else m :: ms
theorem mem_add {ms : List Nat} {m x : Nat} : x ∈ add ms m ↔ x = m ∨ x ∈ ms := by
  unfold add
  by_cases h : m ∈ ms
  · rw [if_pos h]; exact ⟨.inr, fun z => z.elim (fun z => z ▸ h) id⟩
  · rw [if_neg h]; exact List.mem_cons
theorem Ms.len {n : Nat} {S : Int → Bool} {ms : List Nat} {m : Nat} (h : Ms n S ms) : (if S (m : Int) = true then ms.length else ms.length + 1) = (add ms m).length := by
  unfold add
  by_cases z : m ∈ ms
  · rw [if_pos z, if_pos ((h.s _).mpr ⟨m, z, rfl⟩)]
  · rw [if_neg z, if_neg]
    · rfl
    · intro q
      obtain ⟨x, h1, h2⟩ := (h.s _).mp q
      exact z (by rw [show m = x by omega]; exact h1)
theorem Ms.add {n : Nat} {S : Int → Bool} {ms : List Nat} {m : Nat} (h : Ms n S ms) (hm : m < n) : Ms n (fun j => S j || decide (j = (m : Int))) (add ms m) := by
  refine ⟨?_, fun x hx => ?_, fun k => ?_⟩
  · unfold MSt.add
    by_cases z : m ∈ ms
    · rw [if_pos z]; exact h.nd
    · rw [if_neg z]; exact List.nodup_cons.mpr ⟨z, h.nd⟩
  · rcases mem_add.mp hx with e | e
    · rw [e]; exact hm
    · exact h.lt x e
  · rw [Bool.or_eq_true, h.s k, decide_eq_true_eq]
    constructor
    · rintro (⟨x, h1, h2⟩ | e)
      · exact ⟨x, mem_add.mpr (.inr h1), h2⟩
      · exact ⟨m, mem_add.mpr (.inl rfl), e⟩
    · rintro ⟨x, h1, h2⟩
      rcases mem_add.mp h1 with e | e
      · exact .inr (by rw [h2, e])
      · exact .inl ⟨x, e, h2⟩
/-! ### ranges of paragraphs -/
def pr (ws : List Tx) (q : Nat × Nat) : PP := (ws.getD q.1 [], ws.getD q.2 [])
def row (n : Nat) (ix : List (Nat × Nat)) : List Nat := (List.range n).filter fun j => ix.any fun q => decide (q.1 ≤ j) && decide (j ≤ q.2)
/-- a tuple of paragraphs: their names, and the ranges that are performed in them -/
structure ParA (K : PySem.W.Frag) (H : Hp) (I : List Tx) (T : List (Tx × List Tx)) (d : Nat) (p : Addr) (ws : List Tx) (ixs : List (List (Nat × Nat))) : Prop where
  s : ∃ xs, SqT K H p xs ∧ xs.length = ws.length ∧ ixs.length = ws.length ∧ ∀ (i : Nat) x w ix, xs[i]? = some x → ws[i]? = some w → ixs[i]? = some ix → ∃ a b us, x = .ref a ∧ SqT K H a [.str (SX.S w), .ref b] ∧ SqT K H b us ∧ Cat (StA K H I T d) us (ix.map (pr ws))
/-- rows of counts -/
def GrR (K : PySem.W.Frag) (H : Hp) (ys : List V) (rs : List (List Nat)) : Prop := ys.length = rs.length ∧ ∀ (i : Nat) y r, ys[i]? = some y → rs[i]? = some r → ∃ a, y = .ref a ∧ SqT K H a (WP.iL r)
theorem GrR.nil {K : PySem.W.Frag} {H : Hp} : GrR K H [] [] := ⟨rfl, fun i r q h _ => by simp at h⟩
theorem GrR.snoc {K : PySem.W.Frag} {H : Hp} {ys : List V} {rs : List (List Nat)} {a : Addr} {r : List Nat} (h : GrR K H ys rs) (g : SqT K H a (WP.iL r)) : GrR K H (ys ++ [.ref a]) (rs ++ [r]) := by
  refine ⟨by rw [List.length_append, List.length_append, h.1]; rfl, fun i v q hv hq => ?_⟩
  have l := h.1
  rcases Nat.lt_or_ge i ys.length with z | z
  · rw [List.getElem?_append_left z] at hv
    rw [List.getElem?_append_left (by omega)] at hq
    exact h.2 i v q hv hq
  · rw [List.getElem?_append_right z] at hv
    rw [List.getElem?_append_right (by omega), ← l] at hq
    cases e : i - ys.length with
    | zero => rw [e] at hv hq; cases hv; cases hq; exact ⟨a, rfl, g⟩
    | succ k => rw [e] at hv; simp at hv
theorem GrR.keep {K : PySem.W.Frag} {H H' : Hp} {ys : List V} {rs : List (List Nat)} (k : ∀ b us, SqT K H b us → SqT K H' b us) (a : GrR K H ys rs) : GrR K H' ys rs :=
  ⟨a.1, fun i r q hr hq => by obtain ⟨t, e, h⟩ := a.2 i r q hr hq; exact ⟨t, e, k _ _ h⟩⟩
/-- pairs of counts -/
def IxA (K : PySem.W.Frag) (H : Hp) (ys : List V) (rs : List (Nat × Nat)) : Prop := ys.length = rs.length ∧ ∀ (i : Nat) y r, ys[i]? = some y → rs[i]? = some r → ∃ a, y = .ref a ∧ SqT K H a [.int (r.1 : Int), .int (r.2 : Int)]
theorem IxA.nil {K : PySem.W.Frag} {H : Hp} : IxA K H [] [] := ⟨rfl, fun i r q h _ => by simp at h⟩
theorem IxA.snoc {K : PySem.W.Frag} {H : Hp} {ys : List V} {rs : List (Nat × Nat)} {a : Addr} {r : Nat × Nat} (h : IxA K H ys rs) (g : SqT K H a [.int (r.1 : Int), .int (r.2 : Int)]) : IxA K H (ys ++ [.ref a]) (rs ++ [r]) := by
  refine ⟨by rw [List.length_append, List.length_append, h.1]; rfl, fun i v q hv hq => ?_⟩
  have l := h.1
  rcases Nat.lt_or_ge i ys.length with z | z
  · rw [List.getElem?_append_left z] at hv
    rw [List.getElem?_append_left (by omega)] at hq
    exact h.2 i v q hv hq
  · rw [List.getElem?_append_right z] at hv
    rw [List.getElem?_append_right (by omega), ← l] at hq
    cases e : i - ys.length with
    | zero => rw [e] at hv hq; cases hv; cases hq; exact ⟨a, rfl, g⟩
    | succ k => rw [e] at hv; simp at hv
theorem IxA.keep {K : PySem.W.Frag} {H H' : Hp} {ys : List V} {rs : List (Nat × Nat)} (k : ∀ b us, SqT K H b us → SqT K H' b us) (a : IxA K H ys rs) : IxA K H' ys rs :=
  ⟨a.1, fun i r q hr hq => by obtain ⟨t, e, h⟩ := a.2 i r q hr hq; exact ⟨t, e, k _ _ h⟩⟩
/-- rising lists with the same members are the same -/
theorem rise_eq : ∀ {a b : List Int}, a.Pairwise (· < ·) → b.Pairwise (· < ·) → (∀ k, k ∈ a ↔ k ∈ b) → a = b
  | [], [], _, _, _ => rfl
  | [], y :: b, _, _, h => absurd ((h y).mpr List.mem_cons_self) List.not_mem_nil
  | x :: a, [], _, _, h => absurd ((h x).mp List.mem_cons_self) List.not_mem_nil
  | x :: a, y :: b, ha, hb, h => by
    obtain ⟨h1, h2⟩ := List.pairwise_cons.mp ha
    obtain ⟨h3, h4⟩ := List.pairwise_cons.mp hb
    have e : x = y := by
      rcases List.mem_cons.mp ((h x).mp List.mem_cons_self) with z | z
      · exact z
      · rcases List.mem_cons.mp ((h y).mpr List.mem_cons_self) with u | u
        · exact u.symm
        · have := h3 x z; have := h1 y u; omega
    subst e
    congr 1
    refine rise_eq h2 h4 fun k => ⟨fun z => ?_, fun z => ?_⟩
    · rcases List.mem_cons.mp ((h k).mp (List.mem_cons_of_mem _ z)) with u | u
      · have := h1 k z; omega
      · exact u
    · rcases List.mem_cons.mp ((h k).mpr (List.mem_cons_of_mem _ z)) with u | u
      · have := h3 k z; omega
      · exact u
theorem row_int (n : Nat) (ix : List (Nat × Nat)) {ns : List Int} (h : ns.Pairwise (· < ·)) (hm : ∀ k : Int, k ∈ ns ↔ ∃ j : Nat, j < n ∧ k = (j : Int) ∧ ∃ q ∈ ix, q.1 ≤ j ∧ j ≤ q.2) : ns.map V.int = WP.iL (row n ix) := by
  have e : ns = (row n ix).map fun (j : Nat) => (j : Int) := by
    refine rise_eq h ?_ fun k => ?_
    · rw [List.pairwise_map]
      exact (List.Pairwise.filter _ List.pairwise_lt_range).imp fun {a b} z => by omega
    · rw [hm k, List.mem_map]
      constructor
      · rintro ⟨j, h1, rfl, q, h2, h3, h4⟩
        exact ⟨j, List.mem_filter.mpr ⟨List.mem_range.mpr h1, List.any_eq_true.mpr ⟨q, h2, by simp [h3, h4]⟩⟩, rfl⟩
      · rintro ⟨j, h1, rfl⟩
        obtain ⟨h1, h2⟩ := List.mem_filter.mp h1
        obtain ⟨q, h2, h3⟩ := List.any_eq_true.mp h2
        simp at h3
        exact ⟨j, List.mem_range.mp h1, rfl, q, h2, h3.1, h3.2⟩
  rw [e, List.map_map]; rfl
end MSt

namespace D
open PySem PySem.Spec PyProof.Rows L2
local macro_rules | `(tactic| k_memK) => `(tactic| first
  | (with_reducible refine WP.eqTS ?_) | (with_reducible refine WP.neTS ?_) | (with_reducible refine WP.bm ?_) | (with_reducible refine WP.tyS ?_) | (with_reducible refine WP.gsub ?_) | (with_reducible refine WP.rng3 ?_) | (with_reducible refine WP.sfld ?_) | (with_reducible refine WP.make ?_) | (with_reducible refine WP.gsl ?_) | (with_reducible refine WP.wstr ?_) | (with_reducible refine WP.bm0 ?_) | (with_reducible refine WP.lc ?_) | (with_reducible refine WP.jr ?_) | (with_reducible refine WP.zipS ?_) | (with_reducible refine WP.par ?_) | (with_reducible refine WP.enumT ?_) | (with_reducible refine WP.tupRev ?_) | (with_reducible refine WP.rev ?_) | (with_reducible refine WP.dnewK ?_) | (with_reducible refine WP.din ?_) | (with_reducible refine WP.dnotin ?_) | (with_reducible refine WP.dput ?_) | (with_reducible refine WP.dget ?_) | (with_reducible refine WP.dcomp ?_) | (with_reducible refine WP.star ?_) | (with_reducible refine WP.walkA ?_) | (with_reducible refine WP.zipA ?_) | (with_reducible refine WP.sc2 ?_) | (with_reducible refine WP.tin ?_)
  | (with_reducible refine WP.seq ?_) | (with_reducible refine WP.asg ?_) | (with_reducible refine WP.name ?_)
  | ((with_reducible show tVar _ _ _ _); refine WP.var rfl ?_) | (with_reducible refine WP.con ?_) | (with_reducible refine WP.op ?_) | (with_reducible refine WP.i0 ?_)
  | (with_reducible refine WP.un ?_) | (with_reducible refine WP.rU_ ?_)
  | (with_reducible refine WP.ifS ?_) | (with_reducible refine WP.ifE ?_) | (with_reducible refine WP.test ?_) | (with_reducible refine WP.bt ?_) | (with_reducible refine WP.isbV ?_)
  | (with_reducible refine WP.ret ?_) | (with_reducible refine WP.retN ?_) | (with_reducible refine WP.drop ?_) | (with_reducible refine WP.next ?_) | (with_reducible refine WP.brk ?_) | (with_reducible refine WP.cont ?_)
  | (with_reducible refine WP.cb ?_) | (with_reducible refine WP.call ?_) | (with_reducible refine WP.cons ?_) | (with_reducible refine WP.nil ?_) | (with_reducible refine WP.tup ?_) | (with_reducible refine WP.lst ?_)
  | (with_reducible refine WP.eqI ?_) | (with_reducible refine WP.neI ?_) | (with_reducible refine WP.eqT ?_) | (with_reducible refine WP.neT ?_) | (with_reducible refine WP.eqB ?_) | (with_reducible refine WP.neB ?_)
  | (with_reducible refine WP.notT ?_) | (with_reducible refine WP.andT ?_) | (with_reducible refine WP.orT ?_) | (with_reducible refine WP.andV ?_) | (with_reducible refine WP.orV ?_) | (with_reducible refine WP.notV ?_)
  | (with_reducible refine WP.sl ?_) | (with_reducible refine WP.noPart ?_) | (with_reducible refine WP.part ?_) | (with_reducible refine WP.isi ?_) | (with_reducible refine WP.isbV ?_) | (with_reducible refine WP.gsCons ?_) | (with_reducible refine WP.gsNil ?_) | (with_reducible refine WP.forl ?_) | (with_reducible refine WP.rng1 ?_) | (with_reducible refine WP.rng2 ?_) | (with_reducible refine WP.walkL ?_) | (with_reducible refine WP.walkT ?_))
local macro_rules | `(tactic| k_updF) => `(tactic| repeat k_memK)

def top (i : Nat) : Stmt := PySem.Challenge.pw_cardwright_k40_performed_paragraphs.main.body.getD i (.Pass ⟨0, 0, 0, 0⟩)
structure Blt (w : World) (K : PySem.W.Frag) (mg : Str → Option Value) : Prop where
  b_bool : mg "bool" = none
  b_enumerate : mg "enumerate" = none
  b_int : mg "int" = none
  b_isinstance : mg "isinstance" = none
  b_len : mg "len" = none
  b_list : mg "list" = none
  b_max : mg "max" = none
  b_range : mg "range" = none
  b_sorted : mg "sorted" = none
  b_str : mg "str" = none
  b_tuple : mg "tuple" = none
  b_zip : mg "zip" = none
  c_INNER_PARTS : WP.KTp K mg "INNER_PARTS" [.str (SX.S [116, 104, 101, 110]), .str (SX.S [115, 116, 97, 116, 101, 109, 101, 110, 116, 115])]
  c_STATEMENT_PARTS : WP.KDt K w mg "STATEMENT_PARTS" [([109, 111, 118, 101], [[115, 111, 117, 114, 99, 101], [114, 101, 102, 101, 114, 101, 110, 99, 101]]), ([115, 101, 116], [[114, 101, 102, 101, 114, 101, 110, 99, 101], [116, 114, 117, 116, 104], [101, 120, 112, 114, 101, 115, 115, 105, 111, 110], [115, 116, 97, 116, 101, 109, 101, 110, 116, 115]]), ([100, 105, 118, 105, 100, 101], [[101, 120, 112, 114, 101, 115, 115, 105, 111, 110], [101, 120, 112, 114, 101, 115, 115, 105, 111, 110], [114, 101, 102, 101, 114, 101, 110, 99, 101], [116, 114, 117, 116, 104], [114, 101, 109, 97, 105, 110, 100, 101, 114], [115, 116, 97, 116, 101, 109, 101, 110, 116, 115]]), ([105, 102], [[99, 111, 110, 100, 105, 116, 105, 111, 110], [116, 104, 101, 110], [115, 116, 97, 116, 101, 109, 101, 110, 116, 115]]), ([112, 101, 114, 102, 111, 114, 109], [[110, 97, 109, 101], [110, 97, 109, 101], [119, 97, 121]]), ([114, 101, 97, 100], [[110, 97, 109, 101], [115, 116, 97, 116, 101, 109, 101, 110, 116, 115], [115, 116, 97, 116, 101, 109, 101, 110, 116, 115]]), ([119, 114, 105, 116, 101], [[110, 97, 109, 101]]), ([115, 104, 111, 119], [[115, 111, 117, 114, 99, 101, 115]]), ([115, 111, 114, 116], [[110, 97, 109, 101], [110, 97, 109, 101], [116, 114, 117, 116, 104]]), ([99, 108, 101, 97, 114], [[114, 101, 102, 101, 114, 101, 110, 99, 101]]), ([115, 116, 111, 112], [])]
abbrev s__law_draws : Stmt := top 8
abbrev N__law_draws : List Str := ["script"]
theorem sc__law_draws : FnScope N__law_draws ["script"] (defScope s__law_draws) := ⟨rfl, rfl, rfl, by decide +kernel, rfl, by decide +kernel, by decide +kernel⟩
/-- the drawing state at d: z is its list and the list's numbers -/
abbrev DZ := Addr × List Int
def DS (K : PySem.W.Frag) (H : Hp) (d : Addr) (z : DZ) : Prop := ∃ (pos cur mix : Int), H d = some (.lst [.ref z.1, .int pos, .int cur, .int mix]) ∧ z.1 ≠ d ∧ H z.1 = some (.lst (z.2.map V.int)) ∧ 0 ≤ pos
theorem DS.same {K : PySem.W.Frag} {H H' : Hp} {d : Addr} {z : DZ} (e : Same H H') (h : DS K H d z) : DS K H' d z := by
  obtain ⟨pos, cur, mix, h1, h2, h3, h4⟩ := h
  exact ⟨pos, cur, mix, e _ _ h1, h2, e _ _ h3, h4⟩
theorem DS.lst {K : PySem.W.Frag} {H : Hp} {d : Addr} {z : DZ} (h : DS K H d z) : ∃ xs, H d = some (.lst xs) := by
  obtain ⟨pos, cur, mix, h1, _⟩ := h
  exact ⟨_, h1⟩
theorem DS.tup {K : PySem.W.Frag} {H H' : Hp} {d p : Addr} {z : DZ} {xs : List V} (h : DS K H d z) (s : WP.Sx d H H') (hp : SqT K H p xs) : SqT K H' p xs := by
  obtain ⟨ys, hx⟩ := h.lst
  exact WP.sqtX s hx hp
theorem DS.new {K : PySem.W.Frag} {H : Hp} {d p : Addr} {z : DZ} (h : DS K H d z) (hp : H p = none) : p ≠ d ∧ p ≠ z.1 := by
  obtain ⟨pos, cur, mix, h1, h2, h3, h4⟩ := h
  exact ⟨fun e => (by rw [e, h1] at hp; cases hp), fun e => (by rw [e, h3] at hp; cases hp)⟩
theorem DS.mut {K : PySem.W.Frag} {H : Hp} {d p : Addr} {z : DZ} {o : HO} (h : DS K H d z) (n : p ≠ d ∧ p ≠ z.1) : DS K (upd H p o) d z := by
  obtain ⟨pos, cur, mix, h1, h2, h3, h4⟩ := h
  exact ⟨pos, cur, mix, by rw [upd_ne (Ne.symm n.1)]; exact h1, h2, by rw [upd_ne (Ne.symm n.2)]; exact h3, h4⟩
theorem DS.alloc {K : PySem.W.Frag} {H : Hp} {d T : Addr} {z : DZ} {o : HO} (h : DS K H d z) (hT : H T = none) : DS K (upd H T o) d z ∧ T ≠ d ∧ WP.Sx d H (upd H T o) ∧ (upd H T o) T = some o :=
  ⟨h.same (WP.same_new hT), (h.new hT).1, WP.Sx.of (WP.same_new hT), upd_same⟩
/-- what was new may be stored to -/
theorem sx_mut {d p : Addr} {H H' : Hp} {o : HO} (e : WP.Sx d H H') (h : H p = none) : WP.Sx d H (upd H' p o) := fun a u n ha => by
  rw [upd_ne (ne_of_none ha h)]; exact e a u n ha
theorem sx_free {d p : Addr} {H H' : Hp} (e : WP.Sx d H H') (n : p ≠ d) (h : H' p = none) : H p = none := by
  cases q : H p with
  | none => rfl
  | some o => have := e p o n q; rw [h] at this; cases this
def sp__law_draws (K : PySem.W.Frag) (mg : WP.MG) : Sp := fun vs H Q _ => ∃ (a : Addr) (ns : List Int), vs = [.ref a] ∧ SqL K H a (ns.map V.int) ∧ ∀ d z H', z.2 = ns → H z.1 = none → H d = none → Same H H' → DS K H' d z → Q (.ref d) H'
section
variable {P : Program} {w : World} {K : PySem.W.Frag} {mg : Str → Option Value} {base : Heap}
theorem ok__law_draws {f : Addr} {fd : FuncData} (F : Fun K "_law_draws" "_law_draws" s__law_draws f fd) (B : Blt w K mg)  : FnOk P w K mg base CX0 1 f fd ["script"] (sp__law_draws K mg) := by
  refine F.ok sc__law_draws (fun vs H Q E h => ?_) (fun cdv A outer s H vs Q E hr h => ?_)
  · first | (obtain ⟨_, rfl, _⟩ := h; rfl) | (obtain ⟨_, _, rfl, _⟩ := h; rfl) | (obtain ⟨_, _, _, rfl, _⟩ := h; rfl) | (obtain ⟨_, _, _, _, rfl, _⟩ := h; rfl) | (obtain ⟨_, _, _, _, _, rfl, _⟩ := h; rfl) | (obtain ⟨_, _, _, _, _, _, rfl, _⟩ := h; rfl) | (obtain ⟨_, _, _, _, _, _, _, rfl, _⟩ := h; rfl) | (obtain ⟨_, _, _, _, _, _, _, _, rfl, _⟩ := h; rfl) | (obtain ⟨rfl, _⟩ := h; rfl)
  · obtain ⟨a, ns, rfl, ha, k⟩ := h
    refine ⟨_, (pss_one (ps_ret (pe_lst (WP.pa_consN (pe_callTy WP.c_listOf (by rfl) B.b_list (by decide +kernel) (WP.pa_consN (pv 0) pa_nil)) (WP.pa_consN pe_int (WP.pa_consN pe_int (WP.pa_consN pe_int pa_nil))))))), ?_⟩
    k_updF
    refine WP.listL ha (fun l hl => ?_)
    k_updF
    refine ⟨WP.sz (show 4 ≤ 1000000 by decide), fun d hd => ?_⟩
    have ne : l ≠ d := fun z => by subst z; rw [upd_same] at hd; cases hd
    exact k d (l, ns) _ rfl hl ((WP.same_new hl).free hd) ((WP.same_new hl).trans (WP.same_new hd)) ⟨0, 0, 1, upd_same, ne, by rw [upd_ne ne, upd_same], by decide⟩
end
abbrev s__law_draw : Stmt := top 9
abbrev N__law_draw : List Str := ["draws", "limit", "cell", "value"]
theorem sc__law_draw : FnScope N__law_draw ["draws", "limit"] (defScope s__law_draw) := ⟨rfl, rfl, rfl, by decide +kernel, rfl, by decide +kernel, by decide +kernel⟩
def sp__law_draw (K : PySem.W.Frag) (mg : WP.MG) : Sp := fun vs H Q _ => ∃ (d : Addr) (ns : DZ) (m : Int), vs = [.ref d, .int m] ∧ 0 < m ∧ WP.Bt m 8000 ∧ DS K H d ns ∧ ∀ v H', 0 ≤ v → v < m → WP.Sx d H H' → DS K H' d ns → Q (.int v) H'
section
variable {P : Program} {w : World} {K : PySem.W.Frag} {mg : Str → Option Value} {base : Heap}
theorem ok__law_draw {f : Addr} {fd : FuncData} (F : Fun K "_law_draw" "_law_draw" s__law_draw f fd) (B : Blt w K mg)  : FnOk P w K mg base CX0 1 f fd ["draws", "limit"] (sp__law_draw K mg) := by
  refine F.ok sc__law_draw (fun vs H Q E h => ?_) (fun cdv A outer s H vs Q E hr h => ?_)
  · first | (obtain ⟨_, rfl, _⟩ := h; rfl) | (obtain ⟨_, _, rfl, _⟩ := h; rfl) | (obtain ⟨_, _, _, rfl, _⟩ := h; rfl) | (obtain ⟨_, _, _, _, rfl, _⟩ := h; rfl) | (obtain ⟨_, _, _, _, _, rfl, _⟩ := h; rfl) | (obtain ⟨_, _, _, _, _, _, rfl, _⟩ := h; rfl) | (obtain ⟨_, _, _, _, _, _, _, rfl, _⟩ := h; rfl) | (obtain ⟨_, _, _, _, _, _, _, _, rfl, _⟩ := h; rfl) | (obtain ⟨rfl, _⟩ := h; rfl)
  · obtain ⟨d, ns, m, rfl, hm, bm, hd, k⟩ := h
    refine ⟨_, (Evl.pss_cut (ps_if (PW.pt (pw_and (pt_cmpR op_eq (pe_ix ix_list (pv 0) pe_int (fun _ _ => rfl)) pe_int (nomark _)) (pw_and1 (pt_cmpR op_lt (pe_ix ix_list (pv 0) pe_int (fun _ _ => rfl)) (pe_callB WP.c_len (by rfl) B.b_len (by decide +kernel) (WP.pa_consN (pe_ix ix_list (pv 0) pe_int (fun _ _ => rfl)) pa_nil)) (nomark _))))) (pss_cons (ps_set (i := 2) sc__law_draw.nd rfl (Or.inl rfl) (pe_ix ix_list (pe_ix ix_list (pv 0) pe_int (fun _ _ => rfl)) (pe_ix ix_list (pv 0) pe_int (fun _ _ => rfl)) (fun _ _ => rfl)))
      (pss_cons (ps_asg (pe_op op_add (pe_ix ix_list (pv 0) pe_int (fun _ _ => rfl)) pe_int) (pg_sub (pv 0) pe_int set_list))
      (Evl.pss_cut (ps_if (pt_cmpR op_ge (pv 2) (pe_op op_pow pe_int pe_int) (nomark _)) (pss_one (ps_asg (pv 2) (pg_sub (pv 0) pe_int set_list))) pss_nil)
      (pss_one (ps_asg (pe_op op_mod (pe_callTy WP.c_int1 (by rfl) B.b_int (by decide +kernel) (WP.pa_consN (pe_op op_add (pe_op op_add (pe_op op_mul (pe_ix ix_list (pv 0) pe_int (fun _ _ => rfl)) pe_int) (pv 2)) pe_int) pa_nil)) pe_int) (pg_sub (pv 0) pe_int set_list)))))) pss_nil)
      (pss_cons (ps_if (pt_cmpR op_gt (pe_ix ix_list (pv 0) pe_int (fun _ _ => rfl)) pe_int (nomark _)) (pss_cons (ps_set (i := 3) sc__law_draw.nd rfl (Or.inl rfl) (pe_op op_mod (pe_callTy WP.c_int1 (by rfl) B.b_int (by decide +kernel) (WP.pa_consN (pe_ix ix_list (pv 0) pe_int (fun _ _ => rfl)) pa_nil)) (pv 1)))
      (pss_cons (ps_asg (pe_op op_fdivW (pe_ix ix_list (pv 0) pe_int (fun _ _ => rfl)) (pv 1)) (pg_sub (pv 0) pe_int set_list))
      (pss_one (ps_ret (pv 3))))) pss_nil)
      (pss_cons (ps_asg (pe_op op_mod (pe_callTy WP.c_int1 (by rfl) B.b_int (by decide +kernel) (WP.pa_consN (pe_op op_add (pe_op op_mul (pe_ix ix_list (pv 0) pe_int (fun _ _ => rfl)) pe_int) pe_int) pa_nil)) pe_int) (pg_sub (pv 0) pe_int set_list))
      (pss_one (ps_ret (pe_op op_mod (pe_callTy WP.c_int1 (by rfl) B.b_int (by decide +kernel) (WP.pa_consN (pe_op op_fdiv (pe_ix ix_list (pv 0) pe_int (fun _ _ => rfl)) pe_int) pa_nil)) (pv 1))))))), ?_⟩
    obtain ⟨l, ns⟩ := ns
    obtain ⟨pos, cur, mix, h1, h2, h3, h4⟩ := hd
    have h3 : SqL K H l (ns.map V.int) := SqL.of h3
    have h3' : H l = some (.lst (ns.map V.int)) := by assumption
    refine WP.cut (fun σ' H' => (∃ z z2, σ' = [some (.ref d), some (.int m), z, z2]) ∧ WP.Sx d H H' ∧ DS K H' d (l, ns)) ?_ ?_
    · k_updF
      refine WP.ixL (SqL.of h1) WP.at2 ?_
      k_updF
      have hD : DS K H d (l, ns) := ⟨pos, cur, mix, h1, h2, h3', h4⟩
      refine WP.br (fun c => ?_) (fun c => ?_)
      · k_updF
        refine WP.ixL (SqL.of h1) WP.at1 ?_
        k_updF
        refine WP.ixL (SqL.of h1) WP.at0 ?_
        k_updF
        refine WP.lenL h3 ?_
        k_updF
        refine WP.br (fun c2 => ?_) (fun c2 => ?_)
        · k_updF
          rw [List.length_map] at c2
          refine WP.ixL (SqL.of h1) WP.at0 ?_
          k_updF
          refine WP.ixL (SqL.of h1) WP.at1 ?_
          refine WP.ixL h3 (WP.at_ints h4 c2) ?_
          k_updF
          generalize ns.getD pos.toNat 0 = cell
          refine WP.ixL (SqL.of h1) WP.at1 ?_
          k_updF
          refine WP.setL h1 rfl ?_
          generalize hH1 : upd H d _ = H1
          have g1 : H1 d = some (.lst [.ref l, .int (pos + 1), .int cur, .int mix]) := by rw [← hH1, upd_same]; rfl
          have s1 : WP.Sx d H H1 := by rw [← hH1]; exact WP.Sx.upd
          have l1 := WP.sqlX (K := K) s1 h2 h3
          clear hH1
          refine WP.cut (fun σ' H' => σ' = [some (.ref d), some (.int m), some (.int cell), none] ∧ WP.Sx d H H' ∧ ∃ cur, H' d = some (.lst [.ref l, .int (pos + 1), .int cur, .int mix])) ?_ ?_
          · k_updF
            refine WP.iC ⟨by decide, by decide, by decide⟩ ?_
            k_updF
            refine WP.br (fun c => ?_) (fun c => ?_)
            · k_updF
              refine WP.setL g1 rfl ?_
              exact ⟨rfl, s1.trans WP.Sx.upd, cell, by rw [upd_same]; rfl⟩
            · k_updF
              exact ⟨rfl, s1, cur, g1⟩
          · rintro σ' H2 ⟨rfl, s2, cur2, g2⟩
            have l2 := WP.sqlX (K := K) s2 h2 h3
            k_updF
            refine WP.ixL (SqL.of g2) WP.at3 ?_
            k_updF
            refine WP.iC (.inr (by decide)) ?_
            k_updF
            refine WP.intI ?_
            k_updF
            refine WP.iC (by decide) ?_
            k_updF
            refine WP.setL g2 rfl ?_
            refine ⟨⟨_, _, rfl⟩, s2.trans WP.Sx.upd, pos + 1, cur2, _, by rw [upd_same]; rfl, h2, (s2.trans WP.Sx.upd) l _ h2 h3', by omega⟩
        · k_updF
          exact ⟨⟨_, _, rfl⟩, WP.Sx.refl, hD⟩
      · k_updF
        refine WP.brF rfl ?_
        k_updF
        exact ⟨⟨_, _, rfl⟩, WP.Sx.refl, hD⟩
    clear h1 h2 h3 h3' h4 pos cur mix
    rintro σ' H1 ⟨⟨z, z2, rfl⟩, s1, pos, cur, mix, h1, h2, h3', h4⟩
    have h3 : SqL K H1 l (ns.map V.int) := SqL.of h3'
    k_updF
    refine WP.ixL (SqL.of h1) WP.at2 ?_
    k_updF
    refine WP.br (fun c => ?_) (fun c => ?_)
    · k_updF
      refine WP.ixL (SqL.of h1) WP.at2 ?_
      k_updF
      refine WP.intI ?_
      k_updF
      refine WP.iC hm ?_
      k_updF
      refine WP.ixL (SqL.of h1) WP.at2 ?_
      k_updF
      refine WP.iC (WP.Bt.d' hm bm) ?_
      k_updF
      refine WP.setL h1 rfl ?_
      k_updF
      exact k _ _ (Int.emod_nonneg _ (by omega)) (Int.emod_lt_of_pos _ hm) (s1.trans WP.Sx.upd) ⟨pos, _, mix, by rw [upd_same]; rfl, h2, WP.Sx.upd l _ h2 h3', h4⟩
    · k_updF
      refine WP.ixL (SqL.of h1) WP.at3 ?_
      k_updF
      refine WP.iC (.inr (by decide)) ?_
      k_updF
      refine WP.intI ?_
      k_updF
      refine WP.iC (by decide) ?_
      k_updF
      refine WP.setL h1 rfl ?_
      k_updF
      refine WP.ixL (SqL.of upd_same) WP.at3 ?_
      k_updF
      refine WP.iC ⟨by decide, by decide⟩ ?_
      k_updF
      refine WP.intI ?_
      k_updF
      refine WP.iC hm ?_
      exact k _ _ (Int.emod_nonneg _ (by omega)) (Int.emod_lt_of_pos _ hm) (s1.trans WP.Sx.upd) ⟨pos, cur, _, by rw [upd_same]; rfl, h2, WP.Sx.upd l _ h2 h3', h4⟩
end
abbrev s__law_reserved : Stmt := top 11
abbrev N__law_reserved : List Str := ["words"]
theorem sc__law_reserved : FnScope N__law_reserved [] (defScope s__law_reserved) := ⟨rfl, rfl, rfl, by decide +kernel, rfl, by decide +kernel, by decide +kernel⟩
/-- the reserved words -/
def rsvA : List (List Nat) := [[112, 114, 111, 103, 114, 97, 109], [100, 97, 116, 97], [102, 105, 108, 101, 115], [112, 114, 111, 99, 101, 100, 117, 114, 101], [112, 105, 99, 116, 117, 114, 101], [111, 99, 99, 117, 114, 115], [118, 97, 108, 117, 101], [105, 110, 112, 117, 116], [111, 117, 116, 112, 117, 116], [114, 101, 99, 111, 114, 100], [109, 111, 118, 101], [116, 111]]
def rsvB : List (List Nat) := [[115, 101, 116], [114, 111, 117, 110, 100, 101, 100], [101, 108, 115, 101], [101, 110, 100], [100, 105, 118, 105, 100, 101], [98, 121], [103, 105, 118, 105, 110, 103], [114, 101, 109, 97, 105, 110, 100, 101, 114], [105, 102], [116, 104, 101, 110], [112, 101, 114, 102, 111, 114, 109], [116, 104, 114, 117]]
def rsvC : List (List Nat) := [[116, 105, 109, 101, 115], [117, 110, 116, 105, 108], [118, 97, 114, 121, 105, 110, 103], [102, 114, 111, 109], [114, 101, 97, 100], [97, 116], [98, 97, 100], [119, 114, 105, 116, 101], [115, 104, 111, 119], [115, 111, 114, 116], [100, 101, 115, 99, 101, 110, 100, 105, 110, 103], [99, 108, 101, 97, 114]]
def rsvD : List (List Nat) := [[115, 116, 111, 112], [110, 111, 116], [97, 110, 100], [111, 114], [100, 105, 103, 105, 116, 115], [116, 101, 120, 116]]
def rsv : List (List Nat) := rsvA ++ rsvB ++ rsvC ++ rsvD
def tL (ws : List (List Nat)) : List V := ws.map fun w => .str (SX.S w)
theorem tL_app (a b : List (List Nat)) : tL a ++ tL b = tL (a ++ b) := (List.map_append ..).symm
def sp__law_reserved (K : PySem.W.Frag) (mg : WP.MG) : Sp := fun vs H Q _ => vs = [] ∧ ∀ (p : Addr) (H' : Hp), H p = none → Same H H' → H' p = some (.lst (tL rsv)) → Q (.ref p) H'
section
variable {P : Program} {w : World} {K : PySem.W.Frag} {mg : Str → Option Value} {base : Heap}
theorem ok__law_reserved {f : Addr} {fd : FuncData} (F : Fun K "_law_reserved" "_law_reserved" s__law_reserved f fd) (B : Blt w K mg)  : FnOk P w K mg base CX0 1 f fd [] (sp__law_reserved K mg) := by
  refine F.ok sc__law_reserved (fun vs H Q E h => ?_) (fun cdv A outer s H vs Q E hr h => ?_)
  · first | (obtain ⟨_, rfl, _⟩ := h; rfl) | (obtain ⟨_, _, rfl, _⟩ := h; rfl) | (obtain ⟨_, _, _, rfl, _⟩ := h; rfl) | (obtain ⟨_, _, _, _, rfl, _⟩ := h; rfl) | (obtain ⟨_, _, _, _, _, rfl, _⟩ := h; rfl) | (obtain ⟨_, _, _, _, _, _, rfl, _⟩ := h; rfl) | (obtain ⟨_, _, _, _, _, _, _, rfl, _⟩ := h; rfl) | (obtain ⟨_, _, _, _, _, _, _, _, rfl, _⟩ := h; rfl) | (obtain ⟨rfl, _⟩ := h; rfl)
  · obtain ⟨rfl, k⟩ := h
    refine ⟨_, (pss_cons (ps_set (i := 0) sc__law_reserved.nd rfl (Or.inl rfl) (pe_lst (WP.pa_consN (WP.pe_strL [112, 114, 111, 103, 114, 97, 109] (by decide +kernel)) (WP.pa_consN (WP.pe_strL [100, 97, 116, 97] (by decide +kernel)) (WP.pa_consN (WP.pe_strL [102, 105, 108, 101, 115] (by decide +kernel)) (WP.pa_consN (WP.pe_strL [112, 114, 111, 99, 101, 100, 117, 114, 101] (by decide +kernel)) (WP.pa_consN (WP.pe_strL [112, 105, 99, 116, 117, 114, 101] (by decide +kernel)) (WP.pa_consN (WP.pe_strL [111, 99, 99, 117, 114, 115] (by decide +kernel)) (WP.pa_consN (WP.pe_strL [118, 97, 108, 117, 101] (by decide +kernel)) (WP.pa_consN (WP.pe_strL [105, 110, 112, 117, 116] (by decide +kernel)) (WP.pa_consN (WP.pe_strL [111, 117, 116, 112, 117, 116] (by decide +kernel)) (WP.pa_consN (WP.pe_strL [114, 101, 99, 111, 114, 100] (by decide +kernel)) (WP.pa_consN (WP.pe_strL [109, 111, 118, 101] (by decide +kernel)) (WP.pa_consN (WP.pe_strL [116, 111] (by decide +kernel)) pa_nil))))))))))))))
      (pss_cons (ps_set (i := 0) sc__law_reserved.nd rfl (Or.inl rfl) (pe_op op_cat (pv 0) (pe_lst (WP.pa_consN (WP.pe_strL [115, 101, 116] (by decide +kernel)) (WP.pa_consN (WP.pe_strL [114, 111, 117, 110, 100, 101, 100] (by decide +kernel)) (WP.pa_consN (WP.pe_strL [101, 108, 115, 101] (by decide +kernel)) (WP.pa_consN (WP.pe_strL [101, 110, 100] (by decide +kernel)) (WP.pa_consN (WP.pe_strL [100, 105, 118, 105, 100, 101] (by decide +kernel)) (WP.pa_consN (WP.pe_strL [98, 121] (by decide +kernel)) (WP.pa_consN (WP.pe_strL [103, 105, 118, 105, 110, 103] (by decide +kernel)) (WP.pa_consN (WP.pe_strL [114, 101, 109, 97, 105, 110, 100, 101, 114] (by decide +kernel)) (WP.pa_consN (WP.pe_strL [105, 102] (by decide +kernel)) (WP.pa_consN (WP.pe_strL [116, 104, 101, 110] (by decide +kernel)) (WP.pa_consN (WP.pe_strL [112, 101, 114, 102, 111, 114, 109] (by decide +kernel)) (WP.pa_consN (WP.pe_strL [116, 104, 114, 117] (by decide +kernel)) pa_nil)))))))))))))))
      (pss_cons (ps_set (i := 0) sc__law_reserved.nd rfl (Or.inl rfl) (pe_op op_cat (pv 0) (pe_lst (WP.pa_consN (WP.pe_strL [116, 105, 109, 101, 115] (by decide +kernel)) (WP.pa_consN (WP.pe_strL [117, 110, 116, 105, 108] (by decide +kernel)) (WP.pa_consN (WP.pe_strL [118, 97, 114, 121, 105, 110, 103] (by decide +kernel)) (WP.pa_consN (WP.pe_strL [102, 114, 111, 109] (by decide +kernel)) (WP.pa_consN (WP.pe_strL [114, 101, 97, 100] (by decide +kernel)) (WP.pa_consN (WP.pe_strL [97, 116] (by decide +kernel)) (WP.pa_consN (WP.pe_strL [98, 97, 100] (by decide +kernel)) (WP.pa_consN (WP.pe_strL [119, 114, 105, 116, 101] (by decide +kernel)) (WP.pa_consN (WP.pe_strL [115, 104, 111, 119] (by decide +kernel)) (WP.pa_consN (WP.pe_strL [115, 111, 114, 116] (by decide +kernel)) (WP.pa_consN (WP.pe_strL [100, 101, 115, 99, 101, 110, 100, 105, 110, 103] (by decide +kernel)) (WP.pa_consN (WP.pe_strL [99, 108, 101, 97, 114] (by decide +kernel)) pa_nil)))))))))))))))
      (pss_one (ps_ret (pe_op op_cat (pv 0) (pe_lst (WP.pa_consN (WP.pe_strL [115, 116, 111, 112] (by decide +kernel)) (WP.pa_consN (WP.pe_strL [110, 111, 116] (by decide +kernel)) (WP.pa_consN (WP.pe_strL [97, 110, 100] (by decide +kernel)) (WP.pa_consN (WP.pe_strL [111, 114] (by decide +kernel)) (WP.pa_consN (WP.pe_strL [100, 105, 103, 105, 116, 115] (by decide +kernel)) (WP.pa_consN (WP.pe_strL [116, 101, 120, 116] (by decide +kernel)) pa_nil))))))))))))), ?_⟩
    k_updF
    refine ⟨WP.sz (show 12 ≤ 1000000 by decide), fun p1 h1 => ?_⟩
    generalize hG : upd H p1 _ = G1
    have e1 : Same H G1 := hG ▸ WP.same_new h1
    have g1 : G1 p1 = some (.lst (tL rsvA)) := by rw [← hG]; exact upd_same
    clear hG
    k_updF
    refine ⟨WP.sz (show 12 ≤ 1000000 by decide), fun p2 h2 => ?_⟩
    generalize hG : upd G1 p2 _ = G2
    have e2 : Same G1 G2 := hG ▸ WP.same_new h2
    have g2 : G2 p2 = some (.lst (tL rsvB)) := by rw [← hG]; exact upd_same
    clear hG
    refine WP.catLL (e2 _ _ g1) g2 (by decide) (fun p3 h3 => ?_)
    rw [tL_app]
    have e3 : Same G2 (upd G2 p3 (.lst (tL (rsvA ++ rsvB)))) := WP.same_new h3
    have g3 : (upd G2 p3 (.lst (tL (rsvA ++ rsvB)))) p3 = some (.lst (tL (rsvA ++ rsvB))) := upd_same
    generalize upd G2 p3 _ = G3 at e3 g3 ⊢
    k_updF
    refine ⟨WP.sz (show 12 ≤ 1000000 by decide), fun p4 h4 => ?_⟩
    generalize hG : upd G3 p4 _ = G4
    have e4 : Same G3 G4 := hG ▸ WP.same_new h4
    have g4 : G4 p4 = some (.lst (tL rsvC)) := by rw [← hG]; exact upd_same
    clear hG
    refine WP.catLL (e4 _ _ g3) g4 (by decide) (fun p5 h5 => ?_)
    rw [tL_app]
    have e5 : Same G4 (upd G4 p5 (.lst (tL (rsvA ++ rsvB ++ rsvC)))) := WP.same_new h5
    have g5 : (upd G4 p5 (.lst (tL (rsvA ++ rsvB ++ rsvC)))) p5 = some (.lst (tL (rsvA ++ rsvB ++ rsvC))) := upd_same
    generalize upd G4 p5 _ = G5 at e5 g5 ⊢
    k_updF
    refine ⟨WP.sz (show 6 ≤ 1000000 by decide), fun p6 h6 => ?_⟩
    generalize hG : upd G5 p6 _ = G6
    have e6 : Same G5 G6 := hG ▸ WP.same_new h6
    have g6 : G6 p6 = some (.lst (tL rsvD)) := by rw [← hG]; exact upd_same
    clear hG
    have e16 := ((((e1.trans e2).trans e3).trans e4).trans e5).trans e6
    refine WP.catLL (e6 _ _ g5) g6 (by decide) (fun p7 h7 => ?_)
    rw [tL_app]
    k_updF
    exact k p7 _ (e16.free h7) (e16.trans (WP.same_new h7)) upd_same
end
abbrev s__law_name : Stmt := top 12
abbrev N__law_name : List Str := ["draws", "letters", "size", "name", "k", "marks"]
theorem sc__law_name : FnScope N__law_name ["draws"] (defScope s__law_name) := ⟨rfl, rfl, rfl, by decide +kernel, rfl, by decide +kernel, by decide +kernel⟩
/-- a name that is drawn -/
structure NmOk (l : List Nat) : Prop where
  h : ∃ c r, l = c :: r ∧ 97 ≤ c ∧ c ≤ 122
  n : l.length ≤ 20
  c : ∀ c ∈ l, (97 ≤ c ∧ c ≤ 122) ∨ (48 ≤ c ∧ c ≤ 57) ∨ c = 45
  e : ∀ c, l.getLast? = some c → c ≠ 45
def LET : List Nat := [97, 98, 99, 100, 101, 102, 103, 104, 105, 106, 107, 108, 109, 110, 111, 112, 113, 114, 115, 116, 117, 118, 119, 120, 121, 122]
def DGT : List Nat := [48, 49, 50, 51, 52, 53, 54, 55, 56, 57]
theorem S_beq {a b : List Nat} : (SX.S a == SX.S b) = decide (a = b) := by
  by_cases h : a = b
  · subst h; rw [decide_eq_true rfl]; exact beq_self_eq_true _
  · rw [decide_eq_false h]
    refine beq_eq_false_iff_ne.mpr fun z => h ?_
    have : a.toArray = b.toArray := congrArg Str.cps z
    have := congrArg Array.toList this
    simpa using this
theorem inV_T {l : List Nat} : ∀ {ws : List (List Nat)}, inV (.str (SX.S l)) (tL ws) = decide (l ∈ ws)
  | [] => rfl
  | w :: ws => by
    show ((SX.S w == SX.S l) || inV (.str (SX.S l)) (tL ws)) = _
    rw [inV_T, S_beq]
    by_cases h : w = l
    · subst h; simp
    · have : ¬ l = w := fun z => h z.symm
      simp [h, this]
theorem flat_T : ∀ (ws : List (List Nat)), (tL ws).all flatV = true
  | [] => rfl
  | w :: ws => flat_T ws
theorem inT {K : PySem.W.Frag} {H : Hp} {p : Addr} {l : List Nat} {ws : List (List Nat)} {Q : VK} (h : SqL K H p (tL ws)) (q : Q (.bl (decide (l ∈ ws))) H) : rIn K false (.str (SX.S l)) (.ref p) H Q := ⟨p, _, rfl, .inl h, rfl, flat_T ws, by rw [inV_T]; exact q⟩
def sp__law_name (K : PySem.W.Frag) (mg : WP.MG) : Sp := fun vs H Q _ => ∃ (d : Addr) (ns : DZ), vs = [.ref d] ∧ DS K H d ns ∧ ∀ (l : List Nat) (H' : Hp), NmOk l → WP.Sx d H H' → DS K H' d ns → Q (.str (SX.S l)) H'
section
variable {P : Program} {w : World} {K : PySem.W.Frag} {mg : Str → Option Value} {base : Heap}
theorem ok__law_name {f : Addr} {fd : FuncData} (F : Fun K "_law_name" "_law_name" s__law_name f fd) (B : Blt w K mg) (c__law_draw : WP.Callee P w K mg base CX0 1 "_law_draw" ["draws", "limit"] (sp__law_draw K mg)) (c__law_reserved : WP.Callee P w K mg base CX0 1 "_law_reserved" [] (sp__law_reserved K mg)) : FnOk P w K mg base CX0 2 f fd ["draws"] (sp__law_name K mg) := by
  refine F.ok sc__law_name (fun vs H Q E h => ?_) (fun cdv A outer s H vs Q E hr h => ?_)
  · first | (obtain ⟨_, rfl, _⟩ := h; rfl) | (obtain ⟨_, _, rfl, _⟩ := h; rfl) | (obtain ⟨_, _, _, rfl, _⟩ := h; rfl) | (obtain ⟨_, _, _, _, rfl, _⟩ := h; rfl) | (obtain ⟨_, _, _, _, _, rfl, _⟩ := h; rfl) | (obtain ⟨_, _, _, _, _, _, rfl, _⟩ := h; rfl) | (obtain ⟨_, _, _, _, _, _, _, rfl, _⟩ := h; rfl) | (obtain ⟨_, _, _, _, _, _, _, _, rfl, _⟩ := h; rfl) | (obtain ⟨rfl, _⟩ := h; rfl)
  · obtain ⟨d, ns, rfl, hd, k⟩ := h
    refine ⟨_, (pss_cons (ps_set (i := 1) sc__law_name.nd rfl (Or.inl rfl) (WP.pe_strL [97, 98, 99, 100, 101, 102, 103, 104, 105, 106, 107, 108, 109, 110, 111, 112, 113, 114, 115, 116, 117, 118, 119, 120, 121, 122] (by decide +kernel)))
      (pss_cons (ps_set (i := 2) sc__law_name.nd rfl (Or.inl rfl) (pe_op op_add pe_int (WP.pe_callC c__law_draw hr rfl pass0 (WP.pa_consN (pv 0) (WP.pa_consN pe_int pa_nil)))))
      (Evl.pss_cut (ps_if (pt_cmpR op_eq (WP.pe_callC c__law_draw hr rfl pass0 (WP.pa_consN (pv 0) (WP.pa_consN pe_int pa_nil))) pe_int (nomark _)) (pss_one (ps_set (i := 2) sc__law_name.nd rfl (Or.inl rfl) (pe_op op_add pe_int (WP.pe_callC c__law_draw hr rfl pass0 (WP.pa_consN (pv 0) (WP.pa_consN pe_int pa_nil)))))) pss_nil)
      (pss_cons (ps_set (i := 3) sc__law_name.nd rfl (Or.inl rfl) (pe_ix ix_str (pv 1) (WP.pe_callC c__law_draw hr rfl pass0 (WP.pa_consN (pv 0) (WP.pa_consN pe_int pa_nil))) (fun _ _ => rfl)))
      (pss_cons (ps_for PassesOwn.never rfl (pi_range1 rfl B.b_range (WP.pa_consN (pe_op op_sub (pv 2) pe_int) pa_nil)) (pg_name (i := 4) sc__law_name.nd rfl (Or.inl rfl)) (pss_cons (ps_set (i := 5) sc__law_name.nd rfl (Or.inl rfl) (pe_op WP.op_addS (pv 1) (WP.pe_strL [48, 49, 50, 51, 52, 53, 54, 55, 56, 57] (by decide +kernel))))
      (Evl.pss_cut (ps_if (pt_cmpR op_lt (pv 4) (pe_op op_sub (pv 2) pe_int) (nomark _)) (pss_one (ps_set (i := 5) sc__law_name.nd rfl (Or.inl rfl) (pe_op WP.op_addS (pv 5) (WP.pe_strL [45] (by decide +kernel))))) pss_nil)
      (pss_one (ps_set (i := 3) sc__law_name.nd rfl (Or.inl rfl) (pe_op WP.op_addS (pv 3) (pe_ix ix_str (pv 5) (WP.pe_callC c__law_draw hr rfl pass0 (WP.pa_consN (pv 0) (WP.pa_consN (pe_callB WP.c_len (by rfl) B.b_len (by decide +kernel) (WP.pa_consN (pv 5) pa_nil)) pa_nil))) (fun _ _ => rfl))))))))
      (pss_cons (ps_if (pt_cmpR op_in_seq (pv 3) (WP.pe_callC0 c__law_reserved hr rfl pass0) rfl) (pss_one (ps_ret (pe_op WP.op_addS (pv 3) (WP.pe_strL [48] (by decide +kernel))))) pss_nil)
      (pss_one (ps_ret (pv 3))))))))), ?_⟩
    k_updF
    refine ⟨d, ns, _, rfl, by decide, WP.bt8 (by decide), hd, fun v H1 v0 v1 s1 hd1 => ?_⟩
    k_updF
    refine WP.cut (fun σ' H' => WP.Sx d H H' ∧ DS K H' d ns ∧ ∃ n : Nat, 1 ≤ n ∧ n ≤ 20 ∧ σ' = [some (.ref d), some (.str (SX.S LET)), some (.int (n : Int)), none, none, none]) ?_ ?_
    · k_updF
      refine ⟨d, ns, _, rfl, by decide, WP.bt8 (by decide), hd1, fun w H2 w0 w1 s2 hd2 => ?_⟩
      k_updF
      refine WP.br (fun c => ?_) (fun c => ?_)
      · k_updF
        refine ⟨d, ns, _, rfl, by decide, WP.bt8 (by decide), hd2, fun u H3 u0 u1 s3 hd3 => ?_⟩
        k_updF
        exact ⟨(s1.trans s2).trans s3, hd3, (1 + u).toNat, by omega, by omega, by rw [Int.toNat_of_nonneg (by omega)]; rfl⟩
      · k_updF
        exact ⟨s1.trans s2, hd2, (1 + v).toNat, by omega, by omega, by rw [Int.toNat_of_nonneg (by omega)]; rfl⟩
    clear s1 hd1 hd
    rintro σ' H1 ⟨s1, hd1, n, n1, n20, rfl⟩
    k_updF
    refine ⟨d, ns, _, rfl, by decide, WP.bt8 (by decide), hd1, fun w H2 w0 w1 s2 hd2 => ?_⟩
    obtain ⟨c, hc, hca⟩ := WP.at_C (l := LET) w0 w1
    refine WP.ixS1 hca (by rw [sizeLine_eq]; decide) ?_
    have hcl : 97 ≤ c ∧ c ≤ 122 := (show ∀ c ∈ LET, 97 ≤ c ∧ c ≤ 122 by decide) c hc
    k_updF
    refine ⟨_, rfl, by omega, by omega, for_range (lo := 0) (n := _) (fun i σ' H' => WP.Sx d H H' ∧ DS K H' d ns ∧ ∃ (l : List Nat) (z4 z5 : Option V), σ' = [some (.ref d), some (.str (SX.S LET)), some (.int (n : Int)), some (.str (SX.S l)), z4, z5] ∧ l.length = i + 1 ∧ (∃ r, l = c :: r) ∧ (∀ c ∈ l, (97 ≤ c ∧ c ≤ 122) ∨ (48 ≤ c ∧ c ≤ 57) ∨ c = 45) ∧ (i + 1 = n → ∀ c, l.getLast? = some c → c ≠ 45))
      ⟨s1.trans s2, hd2, [c], none, none, rfl, rfl, ⟨[], rfl⟩, fun x hx => by rw [List.mem_singleton.mp hx]; exact .inl hcl, fun _ x hx => by have : c = x := Option.some.inj hx; omega⟩ ?_ ?_⟩
    · clear s1 s2 hd1 hd2
      rintro i σ' H3 hi ⟨s3, hd3, l, z4, z5, rfl, ll, lr, lc, le⟩
      have hi : i < n - 1 := by omega
      rw [Int.zero_add]
      k_updF
      refine WP.catS (a := LET) (b := DGT) ?_ (by rw [sizeLine_eq]; decide)
      k_updF
      refine WP.cut (fun σ' H' => H' = H3 ∧ ∃ M : List Nat, σ' = [some (.ref d), some (.str (SX.S LET)), some (.int (n : Int)), some (.str (SX.S l)), some (.int (i : Int)), some (.str (SX.S M))] ∧ ((M = LET ++ DGT ++ [45] ∧ i + 2 < n) ∨ (M = LET ++ DGT ∧ i + 2 = n))) ?_ ?_
      · k_updF
        refine WP.br (fun c2 => ?_) (fun c2 => ?_)
        · k_updF
          refine WP.catS (a := LET ++ DGT) (b := [45]) ?_ (by rw [sizeLine_eq]; decide)
          k_updF
          exact ⟨rfl, _, rfl, .inl ⟨rfl, by omega⟩⟩
        · k_updF
          exact ⟨rfl, _, rfl, .inr ⟨rfl, by omega⟩⟩
      rintro σ' H' ⟨rfl, M, rfl, hM⟩
      have hMl : 1 ≤ M.length ∧ M.length ≤ 37 := by rcases hM with ⟨rfl, _⟩ | ⟨rfl, _⟩ <;> decide
      have hMc : ∀ c ∈ M, (97 ≤ c ∧ c ≤ 122) ∨ (48 ≤ c ∧ c ≤ 57) ∨ c = 45 := by rcases hM with ⟨rfl, _⟩ | ⟨rfl, _⟩ <;> decide
      have hMe : i + 2 = n → ∀ c ∈ M, c ≠ 45 := fun h => by
        rcases hM with ⟨_, e⟩ | ⟨rfl, _⟩
        · omega
        · decide
      k_updF
      refine WP.lenS' (by rw [sizeLine_eq]; omega) ?_
      k_updF
      refine ⟨d, ns, _, rfl, by omega, WP.bt8 (by omega), hd3, fun u H4 u0 u1 s4 hd4 => ?_⟩
      obtain ⟨q, hq, hqa⟩ := WP.at_C u0 u1
      refine WP.ixS1 hqa (by rw [sizeLine_eq]; omega) ?_
      refine WP.catS (a := l) (b := [q]) ?_ (by rw [sizeLine_eq]; show _ + 1 ≤ _; omega)
      k_updF
      obtain ⟨r, er⟩ := lr
      refine ⟨s3.trans s4, hd4, l ++ [q], _, _, rfl, by rw [List.length_append, ll]; rfl, ⟨r ++ [q], by rw [er]; rfl⟩, fun x hx => ?_, fun hn x hx => ?_⟩
      · rcases List.mem_append.mp hx with hx | hx
        · exact lc x hx
        · rw [List.mem_singleton.mp hx]; exact hMc q hq
      · rw [List.getLast?_concat] at hx
        have := Option.some.inj hx
        rw [← this]; exact hMe hn q hq
    clear s1 s2 hd1 hd2
    rintro σ' H3 ⟨s3, hd3, l, z4, z5, rfl, ll, ⟨r, er⟩, lc, le⟩
    have ll : l.length = n := by omega
    have le := le (by omega)
    k_updF
    refine ⟨rfl, fun p H4 hp e4 gp => ?_⟩
    refine inT (SqL.of gp) ?_
    k_updF
    refine WP.br (fun c2 => ?_) (fun c2 => ?_)
    · have hr : l.length ≤ 10 := (show ∀ w ∈ rsv, w.length ≤ 10 by decide) l c2
      k_updF
      refine WP.catS (a := l) (b := [48]) ?_ (by rw [sizeLine_eq]; show _ + 1 ≤ _; omega)
      refine k (l ++ [48]) H4 ⟨⟨c, r ++ [48], by rw [er]; rfl, hcl⟩, by rw [List.length_append, List.length_singleton]; omega, fun x hx => ?_, fun x hx => ?_⟩ (s3.trans (.of e4)) (hd3.same e4)
      · rcases List.mem_append.mp hx with hx | hx
        · exact lc x hx
        · rw [List.mem_singleton.mp hx]; exact .inr (.inl (by decide))
      · rw [List.getLast?_concat] at hx
        have := Option.some.inj hx
        omega
    · k_updF
      exact k l H4 ⟨⟨c, r, er, hcl⟩, by omega, lc, le⟩ (s3.trans (.of e4)) (hd3.same e4)
end
abbrev s__law_names : Stmt := top 13
abbrev N__law_names : List Str := ["draws", "count", "names", "k", "name", "j"]
theorem sc__law_names : FnScope N__law_names ["draws", "count"] (defScope s__law_names) := ⟨rfl, rfl, rfl, by decide +kernel, rfl, by decide +kernel, by decide +kernel⟩
def sp__law_names (K : PySem.W.Frag) (mg : WP.MG) : Sp := fun vs H Q _ => ∃ (d : Addr) (ns : DZ) (cnt : Nat), vs = [.ref d, .int (cnt : Int)] ∧ cnt ≤ 40 ∧ DS K H d ns ∧ ∀ (p : Addr) (ws : List (List Nat)) (H' : Hp), H p = none → p ≠ d → WP.Sx d H H' → DS K H' d ns → H' p = some (.lst (tL ws)) → ws.length = cnt → ws.Nodup → (∀ w ∈ ws, w.length ≤ 100 ∧ ∀ c ∈ w, c < 128) → Q (.ref p) H'
section
variable {P : Program} {w : World} {K : PySem.W.Frag} {mg : Str → Option Value} {base : Heap}
theorem ok__law_names {f : Addr} {fd : FuncData} (F : Fun K "_law_names" "_law_names" s__law_names f fd) (B : Blt w K mg) (c__law_name : WP.Callee P w K mg base CX0 2 "_law_name" ["draws"] (sp__law_name K mg)) : FnOk P w K mg base CX0 3 f fd ["draws", "count"] (sp__law_names K mg) := by
  refine F.ok sc__law_names (fun vs H Q E h => ?_) (fun cdv A outer s H vs Q E hr h => ?_)
  · first | (obtain ⟨_, rfl, _⟩ := h; rfl) | (obtain ⟨_, _, rfl, _⟩ := h; rfl) | (obtain ⟨_, _, _, rfl, _⟩ := h; rfl) | (obtain ⟨_, _, _, _, rfl, _⟩ := h; rfl) | (obtain ⟨_, _, _, _, _, rfl, _⟩ := h; rfl) | (obtain ⟨_, _, _, _, _, _, rfl, _⟩ := h; rfl) | (obtain ⟨_, _, _, _, _, _, _, rfl, _⟩ := h; rfl) | (obtain ⟨_, _, _, _, _, _, _, _, rfl, _⟩ := h; rfl) | (obtain ⟨rfl, _⟩ := h; rfl)
  · obtain ⟨d, ns, cnt, rfl, hc, hd, k⟩ := h
    refine ⟨_, (pss_cons (ps_set (i := 2) sc__law_names.nd rfl (Or.inl rfl) (pe_lst pa_nil))
      (pss_cons (ps_for PassesOwn.never rfl (pi_range1 rfl B.b_range (WP.pa_consN (pv 1) pa_nil)) (pg_name (i := 3) sc__law_names.nd rfl (Or.inl rfl)) (pss_cons (ps_set (i := 4) sc__law_names.nd rfl (Or.inl rfl) (WP.pe_callC c__law_name hr rfl pass0 (WP.pa_consN (pv 0) pa_nil)))
      (pss_cons (ps_for PassesOwn.never rfl (pi_range1 rfl B.b_range (WP.pa_consN (pe_op op_add (pv 1) pe_int) pa_nil)) (pg_name (i := 5) sc__law_names.nd rfl (Or.inl rfl)) (pss_one (ps_if (pt_cmpR op_in_seq (pv 4) (pv 2) rfl) (pss_one (ps_set (i := 4) sc__law_names.nd rfl (Or.inl rfl) (pe_op WP.op_addS (pe_slice sl_str (pv 4) po_none (po_some pe_int)) (pe_callTy WP.c_str (by rfl) B.b_str (by decide +kernel) (WP.pa_consN (pv 5) pa_nil))))) pss_nil)))
      (pss_one (ps_expr (pe_bm PySem.F.plainAttrs_list PySem.F.slot_list_append PySem.F.type_list_append mt_append (pv 2) (WP.pa_consN (pv 4) pa_nil)))))))
      (pss_one (ps_ret (pv 2))))), ?_⟩
    k_updF
    refine ⟨Nat.zero_le _, fun p hp => ?_⟩
    have np := hd.new hp
    obtain ⟨hd1, _, s1, g1⟩ := hd.alloc (o := .lst []) hp
    generalize upd H p _ = H1 at hd1 s1 g1 ⊢
    k_updF
    refine ⟨_, rfl, by omega, by omega, for_range (lo := 0) (n := _) (fun i σ' H' => ∃ (ws : List (List Nat)) (z3 z4 z5 : Option V), σ' = [some (.ref d), some (.int (cnt : Int)), some (.ref p), z3, z4, z5] ∧ WP.Sx d H H' ∧ DS K H' d ns ∧ H' p = some (.lst (tL ws)) ∧ ws.length = i ∧ ws.Nodup ∧ ∀ w ∈ ws, w.length ≤ 100 ∧ ∀ c ∈ w, c < 128) ⟨[], none, none, none, rfl, s1, hd1, g1, rfl, List.nodup_nil, fun _ h => nomatch h⟩ ?_ ?_⟩
    · rintro i σ' H2 hi ⟨ws, z3, z4, z5, rfl, s2, hd2, g2, lw, nd, ow⟩
      rw [Int.toNat_natCast] at hi
      k_updF
      refine ⟨d, ns, rfl, hd2, fun l H3 ok s3 hd3 => ?_⟩
      have g3 := s3 _ _ np.1 g2
      have s23 := s2.trans s3
      have l2 : l.length ≤ 20 ∧ ∀ c ∈ l, c < 128 := ⟨ok.n, fun c hc => by have := ok.c c hc; omega⟩
      k_updF
      refine ⟨_, rfl, by omega, by omega, for_range (lo := 0) (n := _) (fun j σ' H' => ∃ (z4 : Option V), σ' = [some (.ref d), some (.int (cnt : Int)), some (.ref p), some (.int (0 + (i : Int))), some (.str (SX.S (MNm.run ws l j))), z4] ∧ H' = H3) ⟨_, rfl, rfl⟩ ?_ ?_⟩
      · rintro j σ' H' hj ⟨z4, rfl, rfl⟩
        have hj : j < cnt + 1 := by omega
        k_updF
        have ro := MNm.run_ok (ns := ws) l2 (j := j) (by omega)
        refine WP.inL ws (SqL.of g3) rfl ⟨_, rfl, ?_⟩
        by_cases hm : MNm.run ws l j ∈ ws
        · rw [if_pos (decide_eq_true hm)]
          k_updF
          refine WP.slTo (by decide) (by rw [sizeLine_eq]; omega) ?_
          k_updF
          rw [show (0 : Int) + (j : Int) = ((j : Nat) : Int) from Int.zero_add _]
          refine WP.strN (WP.log2_lt (by decide) (Nat.lt_of_lt_of_le (show j < 42 by omega) (by decide +kernel))) ?_
          rw [← MNm.dig_num j (by omega)]
          refine WP.catS ?_ ?_
          · refine ⟨some (.int (j : Int)), ?_, rfl⟩
            rw [MNm.run_pos hm]
            rfl
          · have := (MNm.dig_ok2 j (by omega)).1
            rw [sizeLine_eq, List.length_take]; omega
        · rw [if_neg (by rw [decide_eq_false hm]; exact Bool.false_ne_true)]
          refine ⟨some (.int (0 + (j : Int))), ?_, rfl⟩
          rw [MNm.run_neg hm]
          rfl
      rintro σ' H' ⟨z4, rfl, rfl⟩
      have fin := MNm.run_new (ns := ws) l (n := cnt) (by omega) (by omega)
      have ro := MNm.run_ok (ns := ws) l2 (j := cnt + 1) (by omega)
      rw [show ((cnt : Int) + 1).toNat = cnt + 1 by omega]
      k_updF
      refine WP.tyL (SqL.of g3) ?_
      k_updF
      refine WP.appL g3 (by show (ws.map _).length < _; rw [List.length_map, sizeLine_eq]; omega) ?_
      refine ⟨ws ++ [MNm.run ws l (cnt + 1)], _, _, _, rfl, sx_mut s23 hp, hd3.mut np, ?_, ?_, ?_, ?_⟩
      · rw [upd_same]; show _ = some (HO.lst (List.map _ (ws ++ [_]))); rw [List.map_append]; rfl
      · rw [List.length_append, lw]; rfl
      · rw [List.nodup_append]
        exact ⟨nd, List.nodup_cons.mpr ⟨List.not_mem_nil, List.nodup_nil⟩, fun a ha b hb e => fin (by rw [List.mem_singleton.mp hb] at e; exact e ▸ ha)⟩
      · intro w hw
        rcases List.mem_append.mp hw with q | q
        · exact ow w q
        · rw [List.mem_singleton.mp q]; exact ⟨by omega, ro.2⟩
    rintro σ' H' ⟨ws, z3, z4, z5, rfl, s2, hd2, g2, lw, nd, ow⟩
    k_updF
    exact k p ws H' hp np.1 s2 hd2 g2 (by omega) nd ow
end
abbrev s__law_same : Stmt := top 10
abbrev N__law_same : List Str := ["actual", "expected", "k"]
theorem sc__law_same : FnScope N__law_same ["actual", "expected"] (defScope s__law_same) := ⟨rfl, rfl, rfl, by decide +kernel, rfl, by decide +kernel, by decide +kernel⟩
/-- two values that are the same, d tuples deep at most -/
inductive EqV (K : PySem.W.Frag) (H : Hp) : Nat → V → V → Prop where
  | int {d : Nat} (i : Int) : EqV K H d (.int i) (.int i)
  | non {d : Nat} : EqV K H d .non .non
  | bl {d : Nat} (b : Bool) : EqV K H d (.bl b) (.bl b)
  | str {d : Nat} (z : Str) (h : WP.SOk z) : EqV K H d (.str z) (.str z)
  | tup {d : Nat} {p q : Addr} {xs ys : List V} (hp : SqT K H p xs) (hq : SqT K H q ys) (hl : xs.length = ys.length) (hz : ys.length ≤ 1000)
      (h : ∀ (i : Nat) x y, xs[i]? = some x → ys[i]? = some y → EqV K H d x y) : EqV K H (d + 1) (.ref p) (.ref q)
theorem pw_nil {K : PySem.W.Frag} {H : Hp} {d : Nat} : ∀ (i : Nat) x y, ([] : List V)[i]? = some x → ([] : List V)[i]? = some y → EqV K H d x y := fun i x y h _ => by simp at h
theorem pw_cons {K : PySem.W.Frag} {H : Hp} {d : Nat} {x y : V} {xs ys : List V} (h : EqV K H d x y) (t : ∀ (i : Nat) x y, xs[i]? = some x → ys[i]? = some y → EqV K H d x y) : ∀ (i : Nat) x' y', (x :: xs)[i]? = some x' → (y :: ys)[i]? = some y' → EqV K H d x' y' := fun i x' y' h1 h2 => by
  cases i with
  | zero => cases h1; cases h2; exact h
  | succ i => exact t i x' y' (by simpa using h1) (by simpa using h2)
def sp__law_same (K : PySem.W.Frag) (mg : WP.MG) : Nat → Sp
  | 0 => fun _ _ _ _ => False
  | n + 1 => fun vs H Q _ => ∃ x y, vs = [x, y] ∧ EqV K H n x y ∧ Q (.bl true) H
section
variable {P : Program} {w : World} {K : PySem.W.Frag} {mg : Str → Option Value} {base : Heap}
theorem ok__law_same {f : Addr} {fd : FuncData} (F : Fun K "_law_same" "_law_same" s__law_same f fd) (B : Blt w K mg)  {nn : Nat} (c__law_same : WP.Callee P w K mg base CX0 (0 + nn) "_law_same" ["actual", "expected"] (sp__law_same K mg nn)) : FnOk P w K mg base CX0 (0 + nn + 1) f fd ["actual", "expected"] (sp__law_same K mg (nn + 1)) := by
  refine F.ok sc__law_same (fun vs H Q E h => ?_) (fun cdv A outer s H vs Q E hr h => ?_)
  · first | (obtain ⟨_, rfl, _⟩ := h; rfl) | (obtain ⟨_, _, rfl, _⟩ := h; rfl) | (obtain ⟨_, _, _, rfl, _⟩ := h; rfl) | (obtain ⟨_, _, _, _, rfl, _⟩ := h; rfl) | (obtain ⟨_, _, _, _, _, rfl, _⟩ := h; rfl) | (obtain ⟨_, _, _, _, _, _, rfl, _⟩ := h; rfl) | (obtain ⟨_, _, _, _, _, _, _, rfl, _⟩ := h; rfl) | (obtain ⟨_, _, _, _, _, _, _, _, rfl, _⟩ := h; rfl) | (obtain ⟨rfl, _⟩ := h; rfl)
  · obtain ⟨x, y, rfl, he, k⟩ := h
    refine ⟨_, (pss_cons (ps_if (pt_val (pe_callB call_isi (by rfl) B.b_isinstance (by decide +kernel) (pa_cons (pv 1) (pa_cons (pe_bltn (v := .ty "tuple") rfl B.b_tuple (by decide +kernel) rfl) pa_nil)))) (pss_cons (ps_if (PW.pt (pw_or (pt_not (pt_val (pe_callB call_isi (by rfl) B.b_isinstance (by decide +kernel) (pa_cons (pv 0) (pa_cons (pe_bltn (v := .ty "tuple") rfl B.b_tuple (by decide +kernel) rfl) pa_nil))))) (pw_or1 (pt_cmpR op_ne (pe_callB WP.c_len (by rfl) B.b_len (by decide +kernel) (WP.pa_consN (pv 0) pa_nil)) (pe_callB WP.c_len (by rfl) B.b_len (by decide +kernel) (WP.pa_consN (pv 1) pa_nil)) (nomark _))))) (pss_one (ps_ret pe_bl)) pss_nil)
      (pss_cons (ps_for PassesOwn.never rfl (pi_range1 rfl B.b_range (WP.pa_consN (pe_callB WP.c_len (by rfl) B.b_len (by decide +kernel) (WP.pa_consN (pv 1) pa_nil)) pa_nil)) (pg_name (i := 2) sc__law_same.nd rfl (Or.inl rfl)) (pss_one (ps_if (pt_not (pt_val (WP.pe_callC (hl := by omega) c__law_same hr rfl pass0 (WP.pa_consN (pe_ix ix_tup (pv 0) (pv 2) (fun _ _ => rfl)) (WP.pa_consN (pe_ix ix_tup (pv 1) (pv 2) (fun _ _ => rfl)) pa_nil))))) (pss_one (ps_ret pe_bl)) pss_nil)))
      (pss_one (ps_ret pe_bl)))) pss_nil)
      (pss_cons (ps_if (pt_val (pe_callB call_isi (by rfl) B.b_isinstance (by decide +kernel) (pa_cons (pv 1) (pa_cons (pe_bltn (v := .ty "str") rfl B.b_str (by decide +kernel) rfl) pa_nil)))) (pss_one (ps_ret (pe_and (pe_callB call_isi (by rfl) B.b_isinstance (by decide +kernel) (pa_cons (pv 0) (pa_cons (pe_bltn (v := .ty "str") rfl B.b_str (by decide +kernel) rfl) pa_nil))) (pe_one (pe_cmpR (op_eqD hr.units) (pv 0) (pv 1) (nomark _)))))) pss_nil)
      (pss_cons (ps_if (pt_cmpR op_isN (pv 1) pe_non (nomark _)) (pss_one (ps_ret (pe_cmpR op_isN (pv 0) pe_non (nomark _)))) pss_nil)
      (pss_cons (ps_if (PW.pt (pw_or (pt_val (pe_callB call_isi (by rfl) B.b_isinstance (by decide +kernel) (pa_cons (pv 1) (pa_cons (pe_bltn (v := .ty "bool") rfl B.b_bool (by decide +kernel) rfl) pa_nil)))) (pw_or1 (pt_val (pe_callB call_isi (by rfl) B.b_isinstance (by decide +kernel) (pa_cons (pv 0) (pa_cons (pe_bltn (v := .ty "bool") rfl B.b_bool (by decide +kernel) rfl) pa_nil))))))) (pss_one (ps_ret (pe_and (pe_callB call_isi (by rfl) B.b_isinstance (by decide +kernel) (pa_cons (pv 1) (pa_cons (pe_bltn (v := .ty "bool") rfl B.b_bool (by decide +kernel) rfl) pa_nil))) (pe_and (pe_callB call_isi (by rfl) B.b_isinstance (by decide +kernel) (pa_cons (pv 0) (pa_cons (pe_bltn (v := .ty "bool") rfl B.b_bool (by decide +kernel) rfl) pa_nil))) (pe_one (pe_cmpR (op_eqD hr.units) (pv 0) (pv 1) (nomark _))))))) pss_nil)
      (pss_one (ps_ret (pe_and (pe_callB call_isi (by rfl) B.b_isinstance (by decide +kernel) (pa_cons (pv 0) (pa_cons (pe_bltn (v := .ty "int") rfl B.b_int (by decide +kernel) rfl) pa_nil))) (pe_one (pe_cmpR (op_eqD hr.units) (pv 0) (pv 1) (nomark _)))))))))), ?_⟩
    cases he with
    | int i =>
      k_updF
      refine WP.isN (.base (.int _)) ?_
      k_updF
      refine WP.brF rfl ?_
      k_updF
      refine WP.isN (.base (.int _)) ?_
      k_updF
      refine WP.brF rfl ?_
      k_updF
      refine ⟨rfl, ?_⟩
      k_updF
      refine WP.brF (decide_eq_false fun z => nomatch z) ?_
      k_updF
      refine WP.isN (.base (.int _)) ?_
      k_updF
      refine WP.brF rfl ?_
      k_updF
      refine WP.isN (.base (.int _)) ?_
      k_updF
      refine WP.brF rfl ?_
      k_updF
      refine WP.isY (.base (.int _)) ?_
      k_updF
      refine WP.brT rfl ?_
      k_updF
      refine WP.eqD (.int _) (.int _) ?_
      rw [SeqAt.eqv_refl _ (by rfl)]
      exact k
    | non =>
      k_updF
      refine WP.isN (.base .non) ?_
      k_updF
      refine WP.brF rfl ?_
      k_updF
      refine WP.isN (.base .non) ?_
      k_updF
      refine WP.brF rfl ?_
      k_updF
      refine ⟨rfl, ?_⟩
      k_updF
      refine WP.brT rfl ?_
      k_updF
      refine ⟨rfl, ?_⟩
      k_updF
      exact k
    | bl b =>
      k_updF
      refine WP.isN (.base (.bl _)) ?_
      k_updF
      refine WP.brF rfl ?_
      k_updF
      refine WP.isN (.base (.bl _)) ?_
      k_updF
      refine WP.brF rfl ?_
      k_updF
      refine ⟨rfl, ?_⟩
      k_updF
      refine WP.brF (decide_eq_false fun z => nomatch z) ?_
      k_updF
      refine WP.isY (.base (.bl _)) ?_
      k_updF
      refine WP.brT rfl ?_
      k_updF
      refine WP.brT rfl ?_
      k_updF
      refine WP.isY (.base (.bl _)) ?_
      k_updF
      refine WP.brT rfl ?_
      k_updF
      refine WP.isY (.base (.bl _)) ?_
      k_updF
      refine WP.brT rfl ?_
      k_updF
      refine WP.eqD (.bl _) (.bl _) ?_
      rw [SeqAt.eqv_refl _ (by rfl)]
      exact k
    | str z hz =>
      k_updF
      refine WP.isN (.base (.str _)) ?_
      k_updF
      refine WP.brF rfl ?_
      k_updF
      refine WP.isY (.base (.str _)) ?_
      k_updF
      refine WP.brT rfl ?_
      k_updF
      refine WP.isY (.base (.str _)) ?_
      k_updF
      refine WP.brT rfl ?_
      k_updF
      refine WP.eqD (.str _) (.str _) ?_ hz.sh hz.sh
      rw [SeqAt.eqv_refl _ hz]
      exact k
    | @tup d p q xs ys hp hq hl hz he =>
      k_updF
      refine WP.isY (WP.tyT hq) ?_
      k_updF
      refine WP.brT rfl ?_
      k_updF
      refine WP.isY (WP.tyT hp) ?_
      k_updF
      refine WP.brF rfl ?_
      k_updF
      refine WP.lenT hp ?_
      k_updF
      refine WP.lenT hq ?_
      k_updF
      refine WP.brF (by rw [hl]; simp) ?_
      k_updF
      refine WP.lenT hq ?_
      k_updF
      refine ⟨_, rfl, by omega, by omega, for_range (lo := 0) (n := _) (fun i σ' H' => H' = H ∧ ∃ z, σ' = [some (.ref p), some (.ref q), z]) ⟨rfl, none, rfl⟩ ?_ ?_⟩
      · rintro i σ' H' hi ⟨rfl, z, rfl⟩
        rw [Int.toNat_natCast] at hi
        rw [Int.zero_add]
        have ex := List.getElem?_eq_getElem (l := xs) (i := i) (by omega)
        have ey := List.getElem?_eq_getElem (l := ys) (i := i) (by omega)
        k_updF
        refine WP.ixT hp (atI_nat ex) ?_
        k_updF
        refine WP.ixT hq (atI_nat ey) ?_
        k_updF
        refine ⟨_, _, rfl, he i _ _ ex ey, ?_⟩
        k_updF
        refine WP.brF rfl ?_
        k_updF
        exact ⟨rfl, _, rfl⟩
      · rintro σ' H' ⟨rfl, z, rfl⟩
        k_updF
        exact k
end
abbrev s_inner_statements : Stmt := top 3
abbrev N_inner_statements : List Str := ["statement", "found", "sort", "part"]
theorem sc_inner_statements : FnScope N_inner_statements ["statement"] (defScope s_inner_statements) := ⟨rfl, rfl, rfl, by decide +kernel, rfl, by decide +kernel, by decide +kernel⟩
def INN : List (List Nat) := [[116, 104, 101, 110], [115, 116, 97, 116, 101, 109, 101, 110, 116, 115]]
def TAB : List (List Nat × List (List Nat)) := [([109, 111, 118, 101], [[115, 111, 117, 114, 99, 101], [114, 101, 102, 101, 114, 101, 110, 99, 101]]), ([115, 101, 116], [[114, 101, 102, 101, 114, 101, 110, 99, 101], [116, 114, 117, 116, 104], [101, 120, 112, 114, 101, 115, 115, 105, 111, 110], [115, 116, 97, 116, 101, 109, 101, 110, 116, 115]]), ([100, 105, 118, 105, 100, 101], [[101, 120, 112, 114, 101, 115, 115, 105, 111, 110], [101, 120, 112, 114, 101, 115, 115, 105, 111, 110], [114, 101, 102, 101, 114, 101, 110, 99, 101], [116, 114, 117, 116, 104], [114, 101, 109, 97, 105, 110, 100, 101, 114], [115, 116, 97, 116, 101, 109, 101, 110, 116, 115]]), ([105, 102], [[99, 111, 110, 100, 105, 116, 105, 111, 110], [116, 104, 101, 110], [115, 116, 97, 116, 101, 109, 101, 110, 116, 115]]), ([112, 101, 114, 102, 111, 114, 109], [[110, 97, 109, 101], [110, 97, 109, 101], [119, 97, 121]]), ([114, 101, 97, 100], [[110, 97, 109, 101], [115, 116, 97, 116, 101, 109, 101, 110, 116, 115], [115, 116, 97, 116, 101, 109, 101, 110, 116, 115]]), ([119, 114, 105, 116, 101], [[110, 97, 109, 101]]), ([115, 104, 111, 119], [[115, 111, 117, 114, 99, 101, 115]]), ([115, 111, 114, 116], [[110, 97, 109, 101], [110, 97, 109, 101], [116, 114, 117, 116, 104]]), ([99, 108, 101, 97, 114], [[114, 101, 102, 101, 114, 101, 110, 99, 101]]), ([115, 116, 111, 112], [])]
theorem TAB_n : ∀ p ∈ TAB, p.2.length ≤ 10 := by decide
def sp_inner_statements (K : PySem.W.Frag) (mg : WP.MG) : Sp := fun vs H Q _ => ∃ (a : Addr) (kd : List Nat) (ss : List (List Nat)) (xs bl : List V), vs = [.ref a] ∧ (kd, ss) ∈ TAB ∧ SqT K H a (.str (SX.S kd) :: xs) ∧ MSt.Inn K H INN ss xs bl ∧ bl.length ≤ 1000 ∧ WP.RetL bl H Q
section
variable {P : Program} {w : World} {K : PySem.W.Frag} {mg : Str → Option Value} {base : Heap}
theorem ok_inner_statements {f : Addr} {fd : FuncData} (F : Fun K "inner_statements" "inner_statements" s_inner_statements f fd) (B : Blt w K mg)  : FnOk P w K mg base CX0 1 f fd ["statement"] (sp_inner_statements K mg) := by
  refine F.ok sc_inner_statements (fun vs H Q E h => ?_) (fun cdv A outer s H vs Q E hr h => ?_)
  · first | (obtain ⟨_, rfl, _⟩ := h; rfl) | (obtain ⟨_, _, rfl, _⟩ := h; rfl) | (obtain ⟨_, _, _, rfl, _⟩ := h; rfl) | (obtain ⟨_, _, _, _, rfl, _⟩ := h; rfl) | (obtain ⟨_, _, _, _, _, rfl, _⟩ := h; rfl) | (obtain ⟨_, _, _, _, _, _, rfl, _⟩ := h; rfl) | (obtain ⟨_, _, _, _, _, _, _, rfl, _⟩ := h; rfl) | (obtain ⟨_, _, _, _, _, _, _, _, rfl, _⟩ := h; rfl) | (obtain ⟨rfl, _⟩ := h; rfl)
  · obtain ⟨a, kd, ss, xs, bl, rfl, hk, ha, hin, hz, k⟩ := h
    obtain ⟨bls, lb, lx, rfl, hi⟩ := hin.ix
    clear hin
    have ln := TAB_n _ hk
    dsimp only at ln
    refine ⟨_, (pss_cons (ps_set (i := 1) sc_inner_statements.nd rfl (Or.inl rfl) (pe_lst pa_nil))
      (pss_cons (ps_for PassesOwn.never rfl (RZ.pi_zipA (by rfl) B.b_zip (WP.pa_consN (pe_ix ix_kdict (WP.pe_kdt (by rfl) B.c_STATEMENT_PARTS) (pe_ix ix_tup (pv 0) pe_int (fun _ _ => rfl)) (fun _ _ => rfl)) (WP.pa_consN (pe_slice sl_tup (pv 0) (po_some pe_int) po_none) pa_nil))) (pg_tup (by rfl) (pgs_cons (pg_name (i := 2) sc_inner_statements.nd rfl (Or.inl rfl)) (pgs_cons (pg_name (i := 3) sc_inner_statements.nd rfl (Or.inl rfl)) pgs_nil))) (pss_one (ps_if (pt_cmpR op_in_seq (pv 2) (WP.pe_ktup (by rfl) B.c_INNER_PARTS) rfl) (pss_one (ps_expr (pe_bm PySem.F.plainAttrs_list PySem.F.slot_list_extend PySem.F.type_list_extend WP.mt_extendA (pv 1) (WP.pa_consN (pv 3) pa_nil)))) pss_nil)))
      (pss_one (ps_ret (pv 1))))), ?_⟩
    k_updF
    refine ⟨Nat.zero_le _, fun F hF => ?_⟩
    have e1 : Same H (upd H F (.lst [])) := WP.same_new hF
    have f1 : (upd H F (.lst [])) F = some (.lst []) := upd_same
    generalize upd H F _ = H1 at e1 f1 ⊢
    have ha1 := WP.sqt e1 ha
    k_updF
    refine WP.ixT ha1 WP.at0 ?_
    refine WP.ixKt B.c_STATEMENT_PARTS hk (fun A hA => ?_)
    k_updF
    refine ⟨a, _, rfl, ha1, WP.not_whole1, fun p hp => ?_⟩
    rw [WP.cut1]
    have e2 : Same H1 (upd H1 p (.tup xs)) := WP.same_new hp
    have p2 : (upd H1 p (.tup xs)) p = some (.tup xs) := upd_same
    generalize upd H1 p _ = H2 at e2 p2 ⊢
    have f2 := e2 _ _ f1
    replace e2 := e1.trans e2
    clear e1 f1 ha1 hp
    refine ⟨A, p, _, _, rfl, .inr ⟨hA _, SqT.of p2, WP.for_zipT (K := K) (a := A) (b := p) (xs := ss.map fun a => V.str (SX.S a)) (ys := xs) (by rw [List.length_map, lx]) (fun i σ' H' => ∃ z2 z3, σ' = [some (.ref a), some (.ref F), z2, z3] ∧ Same H H' ∧ H' p = some (.tup xs) ∧ H' F = some (.lst (bls.take i).flatten)) ⟨_, _, rfl, e2, p2, by rw [List.take_zero]; exact f2⟩ (fun i σ' H' h => by obtain ⟨_, _, _, _, h, _⟩ := h; exact ⟨hA _, SqT.of h⟩) ?_ ?_⟩⟩
    · clear e2 p2 f2
      rintro i x v T σ' H3 hx hv ⟨z2, z3, rfl, e3, p3, f3⟩ hT
      rw [List.getElem?_map] at hx
      obtain ⟨s, hs, rfl⟩ : ∃ s, ss[i]? = some s ∧ V.str (SX.S s) = x := by
        cases e : ss[i]? with
        | none => rw [e] at hx; cases hx
        | some s => rw [e] at hx; exact ⟨s, rfl, Option.some.inj hx⟩
      have e4 : Same H3 (upd H3 T (.tup [V.str (SX.S s), v])) := WP.same_new hT
      have T4 : (upd H3 T (.tup [V.str (SX.S s), v])) T = some (.tup [V.str (SX.S s), v]) := upd_same
      generalize upd H3 T _ = H4 at e4 T4 ⊢
      have f4 := e4 _ _ f3
      have p4 := e4 _ _ p3
      replace e4 := e3.trans e4
      clear e3 f3 p3 hT
      refine WP.unT (SqT.of T4) rfl ?_
      k_updF
      refine WP.inT INN (B.c_INNER_PARTS.s _) rfl ?_
      k_updF
      have nF : p ≠ F := fun z => by rw [z, f4] at p4; cases p4
      rcases hi i s v hs hv with ⟨hn, hb⟩ | ⟨hn, b, us, rfl, hus, hb⟩
      · refine WP.brF (decide_eq_false hn) ?_
        k_updF
        refine ⟨_, _, rfl, e4, p4, ?_⟩
        rw [List.take_succ, hb, List.flatten_append, f4]
        simp
      · refine WP.brT (decide_eq_true hn) ?_
        k_updF
        refine WP.tyL (SqL.of f4) ?_
        k_updF
        have hl : (bls.take (i + 1)).flatten.length ≤ 1000 := by
          refine Nat.le_trans ?_ hz
          conv => rhs; rw [← List.take_append_drop (i + 1) bls]
          rw [List.flatten_append, List.length_append]; omega
        rw [List.take_succ, hb, List.flatten_append, List.length_append] at hl
        have e5 : ((some us).toList.flatten : List V) = us := by simp
        rw [e5] at hl
        refine ⟨F, b, _, us, rfl, rfl, f4, .inr (WP.sqt e4 hus), by omega, ?_⟩
        refine ⟨_, _, rfl, WP.same_mut e4 hF, by rw [upd_ne nF]; exact p4, ?_⟩
        rw [List.take_succ, hb, List.flatten_append, e5]
        exact upd_same
    rintro σ' H3 ⟨z2, z3, rfl, e3, p3, f3⟩
    rw [List.length_map, ← lb, List.take_length] at f3
    k_updF
    exact k F H3 hF e3 f3
end
abbrev s_performed : Stmt := top 5
abbrev N_performed : List Str := ["statements", "found", "statement"]
theorem sc_performed : FnScope N_performed ["statements"] (defScope s_performed) := ⟨rfl, rfl, rfl, by decide +kernel, rfl, by decide +kernel, by decide +kernel⟩
def sp_performed (K : PySem.W.Frag) (mg : WP.MG) : Nat → Sp
  | 0 => fun _ _ _ _ => False
  | n + 1 => fun vs H Q _ => ∃ (p : Addr) (xs : List V) (ps : List MSt.PP), vs = [.ref p] ∧ WP.SqA K H p xs ∧ MSt.Cat (MSt.StA K H INN TAB n) xs ps ∧ ps.length ≤ 1000 ∧
      ∀ (F : Addr) (rs : List V) (H' : Hp), H F = none → Same H H' → H' F = some (.lst rs) → MSt.PrA K H' rs ps → Q (.ref F) H'
section
variable {P : Program} {w : World} {K : PySem.W.Frag} {mg : Str → Option Value} {base : Heap}
theorem ok_performed {f : Addr} {fd : FuncData} (F : Fun K "performed" "performed" s_performed f fd) (B : Blt w K mg) (c_inner_statements : WP.Callee P w K mg base CX0 1 "inner_statements" ["statement"] (sp_inner_statements K mg)) {nn : Nat} (c_performed : WP.Callee P w K mg base CX0 (1 + nn) "performed" ["statements"] (sp_performed K mg nn)) : FnOk P w K mg base CX0 (1 + nn + 1) f fd ["statements"] (sp_performed K mg (nn + 1)) := by
  refine F.ok sc_performed (fun vs H Q E h => ?_) (fun cdv A outer s H vs Q E hr h => ?_)
  · first | (obtain ⟨_, rfl, _⟩ := h; rfl) | (obtain ⟨_, _, rfl, _⟩ := h; rfl) | (obtain ⟨_, _, _, rfl, _⟩ := h; rfl) | (obtain ⟨_, _, _, _, rfl, _⟩ := h; rfl) | (obtain ⟨_, _, _, _, _, rfl, _⟩ := h; rfl) | (obtain ⟨_, _, _, _, _, _, rfl, _⟩ := h; rfl) | (obtain ⟨_, _, _, _, _, _, _, rfl, _⟩ := h; rfl) | (obtain ⟨_, _, _, _, _, _, _, _, rfl, _⟩ := h; rfl) | (obtain ⟨rfl, _⟩ := h; rfl)
  · obtain ⟨p, xs, ps, rfl, hs, ⟨pss, lp, rfl, hc⟩, hz, k⟩ := h
    refine ⟨_, (pss_cons (ps_set (i := 1) sc_performed.nd rfl (Or.inl rfl) (pe_lst pa_nil))
      (pss_cons (ps_for PassesOwn.never rfl (WP.pi_any (pv 0)) (pg_name (i := 2) sc_performed.nd rfl (Or.inl rfl)) (pss_one (ps_if (pt_cmpR op_eq (pe_ix ix_tup (pv 2) pe_int (fun _ _ => rfl)) (WP.pe_strL [112, 101, 114, 102, 111, 114, 109] (by decide +kernel)) (nomark _)) (pss_one (ps_expr (pe_bm PySem.F.plainAttrs_list PySem.F.slot_list_append PySem.F.type_list_append mt_append (pv 1) (WP.pa_consN (pe_tup (WP.pa_consN (pe_ix ix_tup (pv 2) pe_int (fun _ _ => rfl)) (WP.pa_consN (pe_ix ix_tup (pv 2) pe_int (fun _ _ => rfl)) pa_nil))) pa_nil)))) (pss_one (ps_expr (pe_bm PySem.F.plainAttrs_list PySem.F.slot_list_extend PySem.F.type_list_extend WP.mt_extendA (pv 1) (WP.pa_consN (WP.pe_callC (hl := by omega) c_performed hr rfl pass0 (WP.pa_consN (WP.pe_callC (hl := by omega) c_inner_statements hr rfl pass0 (WP.pa_consN (pv 2) pa_nil)) pa_nil)) pa_nil)))))))
      (pss_one (ps_ret (pv 1))))), ?_⟩
    k_updF
    refine ⟨Nat.zero_le _, fun F hF => ?_⟩
    have e1 : Same H (upd H F (.lst [])) := WP.same_new hF
    have f1 : (upd H F (.lst [])) F = some (.lst []) := upd_same
    generalize upd H F _ = H1 at e1 f1 ⊢
    k_updF
    refine WP.for_seq (K := K) (xs := xs) hs (fun i σ' H' => ∃ z2 rs, σ' = [some (.ref p), some (.ref F), z2] ∧ Same H H' ∧ H' F = some (.lst rs) ∧ MSt.PrA K H' rs (pss.take i).flatten) ⟨_, [], rfl, e1, f1, by rw [List.take_zero]; exact MSt.PrA.nil⟩ (fun i σ' H' _ h => by obtain ⟨_, _, _, h, _⟩ := h; exact h) ?_ ?_
    · clear f1
      rintro i v σ' H3 hv ⟨z2, rs, rfl, e3, f3, pr⟩
      have hi := (List.getElem?_eq_some_iff.mp hv).1
      obtain ⟨q, hq⟩ : ∃ q, pss[i]? = some q := ⟨_, List.getElem?_eq_getElem (by omega)⟩
      have hst := hc i v q hv hq
      have et : (pss.take (i + 1)).flatten = (pss.take i).flatten ++ q := by
        rw [List.take_succ, hq, List.flatten_append]; simp
      have hl : (pss.take (i + 1)).flatten.length ≤ 1000 := by
        refine Nat.le_trans ?_ hz
        conv => rhs; rw [← List.take_append_drop (i + 1) pss]
        rw [List.flatten_append, List.length_append]; omega
      rw [et, List.length_append] at hl
      cases nn with
      | zero => exact hst.elim
      | succ m =>
        obtain ⟨a, rfl, hst⟩ := hst
        have pl := pr.1
        rcases hst with ⟨f, l, w, ha, rfl⟩ | ⟨kd, ss, vs, bl, hk, ht, ha, hin, hb, hct⟩
        · have ha := WP.sqt e3 ha
          k_updF
          refine WP.ixT ha WP.at0 ?_
          k_updF
          refine WP.brT (decide_eq_true rfl) ?_
          k_updF
          refine WP.tyL (SqL.of f3) ?_
          k_updF
          refine WP.ixT ha WP.at1 ?_
          k_updF
          refine WP.ixT ha WP.at2 ?_
          k_updF
          refine ⟨WP.sz (show 2 ≤ 1000000 by decide), fun t ht => ?_⟩
          have e4 : Same H3 (upd H3 t (.tup [.str (SX.S f), .str (SX.S l)])) := WP.same_new ht
          have t4 : (upd H3 t (.tup [.str (SX.S f), .str (SX.S l)])) t = some (.tup [.str (SX.S f), .str (SX.S l)]) := upd_same
          generalize upd H3 t _ = H4 at e4 t4 ⊢
          have f4 := e4 _ _ f3
          have nt : t ≠ F := fun z => by rw [z, f4] at t4; cases t4
          k_updF
          refine WP.appL f4 (by rw [sizeLine_eq]; omega) ?_
          have s5 : Same H (upd H4 F (.lst (rs ++ [.ref t]))) := WP.same_mut (e3.trans e4) hF
          refine ⟨_, _, rfl, s5, upd_same, ?_⟩
          rw [et]
          have kp : ∀ b us, SqT K H3 b us → SqT K (upd H4 F (.lst (rs ++ [.ref t]))) b us := fun b us h => WP.sqtX (d := F) WP.Sx.upd f4 (WP.sqt e4 h)
          exact (pr.keep kp).app (MSt.PrA.one (SqT.of (by rw [upd_ne nt]; exact t4)))
        · have ha3 := WP.sqt e3 ha
          k_updF
          refine WP.ixT ha3 WP.at0 ?_
          k_updF
          refine WP.brF (decide_eq_false fun z => hk z) ?_
          k_updF
          refine WP.tyL (SqL.of f3) ?_
          k_updF
          refine ⟨a, kd, ss, vs, bl, rfl, ht, ha3, hin.keep (fun b us h => WP.sqt e3 h), hb, fun p4 H4 hp4 e4 g4 => ?_⟩
          refine ⟨p4, bl, q, rfl, .inl (SqL.of g4), hct.mono (fun v q h => h.keep fun b us h => WP.sqt (e3.trans e4) h), by omega, fun G qs H5 hG e5 g5 pr5 => ?_⟩
          have f5 := e5 _ _ (e4 _ _ f3)
          have q5 := pr5.1
          refine ⟨F, G, rs, qs, rfl, rfl, f5, .inl g5, by omega, ?_⟩
          have s6 : Same H (upd H5 F (.lst (rs ++ qs))) := WP.same_mut ((e3.trans e4).trans e5) hF
          refine ⟨_, _, rfl, s6, upd_same, ?_⟩
          rw [et]
          have kp : ∀ b us, SqT K H5 b us → SqT K (upd H5 F (.lst (rs ++ qs))) b us := fun b us h => WP.sqtX (d := F) WP.Sx.upd f5 h
          exact (pr.keep fun b us h => kp b us (WP.sqt (e4.trans e5) h)).app (pr5.keep kp)
    rintro σ' H3 ⟨z2, rs, rfl, e3, f3, pr⟩
    rw [← lp, List.take_length] at pr
    k_updF
    exact k F rs H3 hF e3 f3 pr
end
abbrev s_graph_of : Stmt := top 6
abbrev N_graph_of : List Str := ["paragraphs", "_", "places", "graph", "statements", "ranges", "at", "name", "first", "last"]
theorem sc_graph_of : FnScope N_graph_of ["paragraphs"] (defScope s_graph_of) := ⟨rfl, rfl, rfl, by decide +kernel, rfl, by decide +kernel, by decide +kernel⟩
def sp_graph_of (K : PySem.W.Frag) (mg : WP.MG) : Sp := fun vs H Q _ => ∃ (p : Addr) (ws : List (List Nat)) (ixs : List (List (Nat × Nat))), vs = [.ref p] ∧ MSt.ParA K H INN TAB 4 p ws ixs ∧ ws.Nodup ∧ ws.length ≤ 40 ∧ (∀ ix ∈ ixs, ix.length ≤ 1000 ∧ ∀ q ∈ ix, q.1 ≤ q.2 ∧ q.2 < ws.length) ∧
  ∀ (q : Addr) (ys : List V) (H' : Hp), Same H H' → SqT K H' q ys → MSt.GrR K H' ys (ixs.map (MSt.row ws.length)) → Q (.ref q) H'
section
variable {P : Program} {w : World} {K : PySem.W.Frag} {mg : Str → Option Value} {base : Heap}
theorem ok_graph_of {f : Addr} {fd : FuncData} (F : Fun K "graph_of" "graph_of" s_graph_of f fd) (B : Blt w K mg) (c_performed : WP.Callee P w K mg base CX0 6 "performed" ["statements"] (sp_performed K mg 5)) : FnOk P w K mg base CX0 7 f fd ["paragraphs"] (sp_graph_of K mg) := by
  refine F.ok sc_graph_of (fun vs H Q E h => ?_) (fun cdv A outer s H vs Q E hr h => ?_)
  · first | (obtain ⟨_, rfl, _⟩ := h; rfl) | (obtain ⟨_, _, rfl, _⟩ := h; rfl) | (obtain ⟨_, _, _, rfl, _⟩ := h; rfl) | (obtain ⟨_, _, _, _, rfl, _⟩ := h; rfl) | (obtain ⟨_, _, _, _, _, rfl, _⟩ := h; rfl) | (obtain ⟨_, _, _, _, _, _, rfl, _⟩ := h; rfl) | (obtain ⟨_, _, _, _, _, _, _, rfl, _⟩ := h; rfl) | (obtain ⟨_, _, _, _, _, _, _, _, rfl, _⟩ := h; rfl) | (obtain ⟨rfl, _⟩ := h; rfl)
  · obtain ⟨p, ws, ixs, rfl, ⟨xs, hx, lx, li, hp⟩, hnd, hn, hix, k⟩ := h
    refine ⟨_, (pss_cons (ps_set (i := 2) sc_graph_of.nd rfl (Or.inr rfl) (pe_dc (own := [("at", 6), ("name", 7), ("_", 1)]) (g := (gTup K 2 (gCons (gName 6) (gCons (gTup K 2 (gCons (gName 7) (gCons (gName 1) gNil))) gNil)))) (tt := tYes) rfl sc_graph_of.nd (WET.pi_enumT (by rfl) B.b_enumerate (WP.pa_consN (pv 0) pa_nil)) (blkOk_by (own := [("at", 6), ("name", 7), ("_", 1)]) (N := N_graph_of) (sc := defScope s_graph_of) (by decide +kernel)) (fun _ _ _ _ _ => (pg_tup (by rfl) (pgs_cons (pg_name (i := 6) sc_graph_of.nd rfl (Or.inl rfl)) (pgs_cons (pg_tup (by rfl) (pgs_cons (pg_name (i := 7) sc_graph_of.nd rfl (Or.inl rfl)) (pgs_cons (pg_name (i := 1) sc_graph_of.nd rfl (Or.inl rfl)) pgs_nil))) pgs_nil)))) (fun _ _ _ _ _ => pts_nil) (fun _ _ _ _ _ => (pv 7)) (fun _ _ _ _ _ => (pv 6))))
      (pss_cons (ps_set (i := 3) sc_graph_of.nd rfl (Or.inl rfl) (pe_lst pa_nil))
      (pss_cons (ps_for PassesOwn.never rfl (pi_tup (pv 0)) (pg_tup (by rfl) (pgs_cons (pg_name (i := 1) sc_graph_of.nd rfl (Or.inl rfl)) (pgs_cons (pg_name (i := 4) sc_graph_of.nd rfl (Or.inl rfl)) pgs_nil))) (pss_cons (ps_setLc (i := 5) (own := [("first", 8), ("last", 9)]) (g := gTup K 2 (gCons (gName 8) (gCons (gName 9) gNil))) (tt := tYes) rfl sc_graph_of.nd rfl rfl (sw_true rfl rfl rfl (by decide +kernel)) (pi_list (WP.pe_callC c_performed hr rfl pass0 (WP.pa_consN (pv 4) pa_nil))) (blkOk_by (own := [("first", 8), ("last", 9)]) (N := N_graph_of) (sc := defScope s_graph_of) (by decide +kernel)) (fun _ _ _ _ _ => pg_tup (by rfl) (pgs_cons (pg_name (i := 8) sc_graph_of.nd rfl (Or.inl rfl)) (pgs_cons (pg_name (i := 9) sc_graph_of.nd rfl (Or.inl rfl)) pgs_nil))) (fun _ _ _ _ _ => pts_nil) (fun _ _ _ _ _ => (pe_tup (WP.pa_consN (pe_dget (hu_of hr) (pv 2) (pv 8) (fun _ _ => rfl)) (WP.pa_consN (pe_dget (hu_of hr) (pv 2) (pv 9) (fun _ _ => rfl)) pa_nil)))))
      (pss_one (ps_expr (pe_bm PySem.F.plainAttrs_list PySem.F.slot_list_append PySem.F.type_list_append mt_append (pv 3) (WP.pa_consN (pe_callTy WP.c_tupOf (by rfl) B.b_tuple (by decide +kernel) (WP.pa_consN (pe_callB (cr_sortedSet rfl) (by rfl) B.b_sorted (by decide +kernel) (WP.pa_consN (WS.pe_sc2 (own := [("first", 8), ("last", 9), ("at", 6)]) (vs1 := [6]) (g := (gTup K 2 (gCons (gName 8) (gCons (gName 9) gNil)))) (g1 := (gName 6)) (tt := tYes) (tt1 := tYes) rfl sc_graph_of.nd (pi_list (pv 5)) (blkOk_by (own := [("first", 8), ("last", 9), ("at", 6)]) (N := N_graph_of) (sc := defScope s_graph_of) (by decide +kernel)) (by decide) (fun _ _ _ _ _ => (pg_tup (by rfl) (pgs_cons (pg_name (i := 8) sc_graph_of.nd rfl (Or.inl rfl)) (pgs_cons (pg_name (i := 9) sc_graph_of.nd rfl (Or.inl rfl)) pgs_nil)))) (fun _ _ _ _ _ => pts_nil) (fun _ _ _ _ _ => (pi_range2 rfl B.b_range (WP.pa_consN (pv 8) (WP.pa_consN (pe_op op_add (pv 9) pe_int) pa_nil)))) (fun _ _ _ _ _ => (pg_name (i := 6) sc_graph_of.nd rfl (Or.inl rfl))) (fun _ _ _ _ _ => pts_nil) (fun _ _ _ _ _ => (pv 6))) pa_nil)) pa_nil)) pa_nil))))))
      (pss_one (ps_ret (pe_callTy WP.c_tupOf (by rfl) B.b_tuple (by decide +kernel) (WP.pa_consN (pv 3) pa_nil))))))), ?_⟩
    k_updF
    refine ⟨p, xs, rfl, hx, fun D hD => WP.dc_enumT (K := K) (a := p) (ys := xs) (fun i H' => ∃ kvs, Same H H' ∧ H' D = some (.dK kvs) ∧ kvs.length ≤ i ∧ ∀ j w, j < i → ws[j]? = some w → valV kvs (Sum.inr (SX.S w)) = some (.int (j : Int))) ⟨[], WP.same_new hD, upd_same, Nat.le_refl _, fun j w h => absurd h (Nat.not_lt_zero _)⟩ (fun i H' _ h => by obtain ⟨_, h, _⟩ := h; exact WP.sqt h hx) ?_ ?_⟩
    · rintro i y H1 N hy hN ⟨kvs, e1, d1, l1, v1⟩
      obtain ⟨w, hw⟩ : ∃ w, ws[i]? = some w := ⟨_, List.getElem?_eq_getElem (by have := (List.getElem?_eq_some_iff.mp hy).1; omega)⟩
      obtain ⟨ix, hix⟩ : ∃ w, ixs[i]? = some w := ⟨_, List.getElem?_eq_getElem (by have := (List.getElem?_eq_some_iff.mp hy).1; omega)⟩
      obtain ⟨a, b, us, rfl, ha, hb, hc⟩ := hp i y w ix hy hw hix
      have e2 : Same H1 (upd H1 N (.tup [.int (i : Int), .ref a])) := WP.same_new hN
      have n2 : (upd H1 N (.tup [.int (i : Int), .ref a])) N = some (.tup [.int (i : Int), .ref a]) := upd_same
      generalize upd H1 N _ = H2 at e2 n2 ⊢
      have d2 := e2 _ _ d1
      replace e2 := e1.trans e2
      refine WP.unT (SqT.of n2) rfl ?_
      k_updF
      refine WP.unT (WP.sqt e2 ha) rfl ?_
      k_updF
      refine ⟨rfl, WP.yes ?_⟩
      k_updF
      refine ⟨kvs, Sum.inr (SX.S w), rfl, d2, by rw [sizeLine_eq]; have := (List.getElem?_eq_some_iff.mp hw).1; omega, _, WP.same_mut e2 hD, upd_same, ?_, fun j u hj hu => ?_⟩
      · have := length_putK kvs (Sum.inr (SX.S w)) (V.int (i : Int)); omega
      · rw [valV_put]
        by_cases e : j = i
        · subst e
          rw [hw] at hu; cases hu
          exact if_pos rfl
        · rw [if_neg fun z => ?_]
          · exact v1 j u (by omega) hu
          · have z := SX.S_inj (Sum.inr.inj z)
            subst z
            obtain ⟨h1, h2⟩ := List.getElem?_eq_some_iff.mp hw
            obtain ⟨h3, h4⟩ := List.getElem?_eq_some_iff.mp hu
            exact e ((List.getElem_inj (h₀ := h3) (h₁ := h1) hnd).mp (h4.trans h2.symm))
    rintro H1 ⟨kvs, e1, d1, l1, v1⟩
    rw [lx] at v1
    replace v1 : ∀ (j : Nat) w, ws[j]? = some w → valV kvs (Sum.inr (SX.S w)) = some (.int (j : Int)) := fun j w h => v1 j w (List.getElem?_eq_some_iff.mp h).1 h
    k_updF
    refine ⟨Nat.zero_le _, fun G hG => ?_⟩
    have e2 : Same H1 (upd H1 G (.lst [])) := WP.same_new hG
    have g2 : (upd H1 G (.lst [])) G = some (.lst []) := upd_same
    have hGH := e1.free hG
    have nGD : D ≠ G := ne_of_none d1 hG
    generalize upd H1 G _ = H2 at e2 g2 ⊢
    have d2 := e2 _ _ d1
    replace e2 := e1.trans e2
    clear e1 d1 hG
    k_updF
    refine ⟨p, rfl, ⟨_, WP.sqt e2 hx⟩, for_tup (K := K) (a := p) (xs := xs) (fun i σ' H' => ∃ z1 z4 z5 z6 z7 z8 z9 ys, σ' = [some (.ref p), z1, some (.ref D), some (.ref G), z4, z5, z6, z7, z8, z9] ∧ Same H H' ∧ H' D = some (.dK kvs) ∧ H' G = some (.lst ys) ∧ MSt.GrR K H' ys ((ixs.map (MSt.row ws.length)).take i)) ⟨_, _, _, _, _, _, _, [], rfl, e2, d2, g2, by rw [List.take_zero]; exact MSt.GrR.nil⟩ (fun i σ' H' _ h => by obtain ⟨_, _, _, _, _, _, _, _, _, h, _⟩ := h; exact WP.sqt h hx) ?_ ?_⟩
    · clear e2 d2 g2
      rintro i x σ' H3 hxi ⟨z1, z4, z5, z6, z7, z8, z9, ys, rfl, e3, d3, g3, gr⟩
      have hil := (List.getElem?_eq_some_iff.mp hxi).1
      obtain ⟨wd, hwd⟩ : ∃ w, ws[i]? = some w := ⟨_, List.getElem?_eq_getElem (by omega)⟩
      obtain ⟨ix, hixi⟩ : ∃ w, ixs[i]? = some w := ⟨_, List.getElem?_eq_getElem (by omega)⟩
      obtain ⟨hixl, hixq⟩ := hix ix (List.mem_of_getElem? hixi)
      obtain ⟨a, b, us, rfl, ha, hb, hc⟩ := hp i x wd ix hxi hwd hixi
      refine WP.unT (WP.sqt e3 ha) rfl ?_
      k_updF
      refine ⟨b, us, _, rfl, .inr (WP.sqt e3 hb), hc.mono (fun v q h => h.keep fun b us h => WP.sqt e3 h), by rw [List.length_map]; exact hixl, fun F rs H4 hF e4 f4 pr4 => ?_⟩
      have d4 := e4 _ _ d3
      have g4 := e4 _ _ g3
      replace gr := gr.keep fun b us h => WP.sqt e4 h
      replace e4 := e3.trans e4
      clear e3 d3 g3 hF
      have prl := pr4.1
      rw [List.length_map] at prl
      refine ⟨F, rfl, ⟨_, SqL.of f4⟩, fun L hL => lc_list (K := K) (a := F) (xs := rs) (fun j H' => Same H4 H' ∧ ∃ vs, H' L = some (.lst vs) ∧ MSt.IxA K H' vs (ix.take j)) ⟨WP.same_new hL, [], upd_same, by rw [List.take_zero]; exact MSt.IxA.nil⟩ (fun j H' _ h => SqL.of (h.1 _ _ f4)) ?_ ?_⟩
      · rintro j r H5 hr ⟨e5, vs, l5, ia⟩
        obtain ⟨q, hq⟩ : ∃ q, ix[j]? = some q := ⟨_, List.getElem?_eq_getElem (by have := (List.getElem?_eq_some_iff.mp hr).1; omega)⟩
        obtain ⟨t, rfl, ht⟩ := pr4.2 j r (MSt.pr ws q) hr (by rw [List.getElem?_map, hq]; rfl)
        obtain ⟨q1, q2⟩ := hixq q (List.mem_of_getElem? hq)
        have w1 : ws[q.1]? = some (MSt.pr ws q).1 := by show _ = some (ws.getD q.1 []); rw [List.getD_eq_getElem?_getD, List.getElem?_eq_getElem (by omega)]; rfl
        have w2 : ws[q.2]? = some (MSt.pr ws q).2 := by show _ = some (ws.getD q.2 []); rw [List.getD_eq_getElem?_getD, List.getElem?_eq_getElem (by omega)]; rfl
        refine WP.unT (WP.sqt e5 ht) rfl ?_
        k_updF
        refine ⟨rfl, WP.yes ?_⟩
        k_updF
        have d5 := e5 _ _ d4
        refine ⟨D, _, rfl, MSt.gotS d5 (v1 _ _ w1), ?_⟩
        k_updF
        refine ⟨D, _, rfl, MSt.gotS d5 (v1 _ _ w2), ?_⟩
        k_updF
        refine ⟨WP.sz (show 2 ≤ 1000000 by decide), fun T hT => ?_⟩
        have e6 : Same H5 (upd H5 T (.tup [.int (q.1 : Int), .int (q.2 : Int)])) := WP.same_new hT
        have t6 : (upd H5 T (.tup [.int (q.1 : Int), .int (q.2 : Int)])) T = some (.tup [.int (q.1 : Int), .int (q.2 : Int)]) := upd_same
        generalize upd H5 T _ = H6 at e6 t6 ⊢
        have l6 := e6 _ _ l5
        have nTL : T ≠ L := fun z => by rw [z, l6] at t6; cases t6
        have vl := ia.1
        rw [List.length_take] at vl
        have s7 : Same H4 (upd H6 L (.lst (vs ++ [.ref T]))) := WP.same_mut (e5.trans e6) hL
        refine ⟨vs, l6, by rw [sizeLine_eq]; omega, s7, _, upd_same, ?_⟩
        rw [List.take_succ, hq]
        have kp : ∀ b us, SqT K H6 b us → SqT K (upd H6 L (.lst (vs ++ [.ref T]))) b us := fun b us h => WP.sqtX (d := L) WP.Sx.upd l6 h
        exact (ia.keep fun b us h => kp b us (WP.sqt e6 h)).snoc (SqT.of (by rw [upd_ne nTL]; exact t6))
      rintro H5 ⟨e5, vs, l5, ia⟩
      rw [prl, List.take_length] at ia
      have d5 := e5 _ _ d4
      have g5 := e5 _ _ g4
      replace gr := gr.keep fun b us h => WP.sqt e5 h
      have hGL : L ≠ G := fun z => by rw [z, g4] at hL; cases hL
      replace e5 := e4.trans e5
      clear e4 d4 g4 f4 pr4
      k_updF
      refine WP.tyL (SqL.of g5) ?_
      k_updF
      refine ⟨L, rfl, ⟨_, SqL.of l5⟩, fun Z hZ => WP.sc_list (w := w) (K := K) (a := L) (xs := vs) (fun j H' => Same H5 H' ∧ ∃ S ms, H' Z = some (SetO w Z S ms.length) ∧ MSt.Ms ws.length S ms ∧ ∀ m, m ∈ ms ↔ ∃ q ∈ ix.take j, q.1 ≤ m ∧ m ≤ q.2) ⟨WP.same_new hZ, _, [], upd_same, MSt.Ms.nil, fun m => by rw [List.take_zero]; simp⟩ (fun j H' _ h => SqL.of (h.1 _ _ l5)) ?_ ?_⟩
      · rintro j r H6 hr ⟨e6, S, ms, z6, hms, hm⟩
        obtain ⟨q, hq⟩ : ∃ q, ix[j]? = some q := ⟨_, List.getElem?_eq_getElem (by have := (List.getElem?_eq_some_iff.mp hr).1; have := ia.1; omega)⟩
        obtain ⟨t, rfl, ht⟩ := ia.2 j r q hr hq
        obtain ⟨q1, q2⟩ := hixq q (List.mem_of_getElem? hq)
        have et : ix.take (j + 1) = ix.take j ++ [q] := by rw [List.take_succ, hq]; rfl
        refine WP.unT (WP.sqt e6 ht) rfl ?_
        k_updF
        refine ⟨rfl, WP.yes ?_⟩
        k_updF
        refine ⟨_, _, rfl, by omega, WP.in_rangeT (lo := (q.1 : Int)) (n := _) (fun i H' => Same H5 H' ∧ ∃ S ms, H' Z = some (SetO w Z S ms.length) ∧ MSt.Ms ws.length S ms ∧ ∀ m, m ∈ ms ↔ (∃ q ∈ ix.take j, q.1 ≤ m ∧ m ≤ q.2) ∨ (q.1 ≤ m ∧ m < q.1 + i)) ⟨e6, S, ms, z6, hms, fun m => by rw [hm m]; exact ⟨.inl, fun z => z.elim id fun z => by omega⟩⟩ ?_ ?_⟩
        · clear e6 z6 hms hm
          rintro i H7 hi ⟨e7, S, ms, z7, hms, hm⟩
          have hml := hms.le
          k_updF
          refine ⟨rfl, WP.yes ?_⟩
          k_updF
          refine ⟨_, S, _, rfl, z7, by unfold scanBound; omega, WP.same_mut e7 hZ, _, _, ?_, hms.add (m := q.1 + i) (by omega), fun m => ?_⟩
          · rw [upd_same, show ((q.1 : Int) + (i : Nat)) = ((q.1 + i : Nat) : Int) by omega, hms.len]
          · rw [MSt.mem_add, hm m]
            constructor
            · rintro (z | z | z)
              · exact .inr (by omega)
              · exact .inl z
              · exact .inr (by omega)
            · rintro (z | z)
              · exact .inr (.inl z)
              · by_cases e : m = q.1 + i
                · exact .inl e
                · exact .inr (.inr (by omega))
        · rintro H7 ⟨e7, S, ms, z7, hms, hm⟩
          refine ⟨e7, S, ms, z7, hms, fun m => ?_⟩
          rw [hm m, et]
          constructor
          · rintro (⟨q', h1, h2⟩ | z)
            · exact ⟨q', List.mem_append.mpr (.inl h1), h2⟩
            · exact ⟨q, List.mem_append.mpr (.inr List.mem_cons_self), by omega⟩
          · rintro ⟨q', h1, h2⟩
            rcases List.mem_append.mp h1 with h1 | h1
            · exact .inl ⟨q', h1, h2⟩
            · rw [List.mem_singleton.mp h1] at h2; exact .inr (by omega)
      rintro H6 ⟨e6, S, ms, z6, hms, hm⟩
      rw [ia.1, List.take_length] at hm
      have d6 := e6 _ _ d5
      have g6 := e6 _ _ g5
      replace gr := gr.keep fun b us h => WP.sqt e6 h
      replace e6 := e5.trans e6
      clear e5 d5 g5 l5
      have hml := hms.le
      k_updF
      refine ⟨Z, S, _, rfl, z6, by omega, fun ns L2 hpw hmem hlen hL2 => ?_⟩
      rw [MSt.row_int ws.length ix hpw fun k => by
        rw [hmem k, hms.s k]
        constructor
        · rintro ⟨m, h1, rfl⟩
          exact ⟨m, hms.lt m h1, rfl, (hm m).mp h1⟩
        · rintro ⟨j, h1, rfl, h2⟩
          exact ⟨j, (hm j).mpr h2, rfl⟩]
      have e7 : Same H6 (upd H6 L2 (.lst (WP.iL (MSt.row ws.length ix)))) := WP.same_new hL2
      have l7 : (upd H6 L2 (.lst (WP.iL (MSt.row ws.length ix)))) L2 = some (.lst (WP.iL (MSt.row ws.length ix))) := upd_same
      generalize upd H6 L2 _ = H7 at e7 l7 ⊢
      k_updF
      refine WP.tupL (SqL.of l7) (fun t ht => ?_)
      have e8 : Same H7 (upd H7 t (.tup (WP.iL (MSt.row ws.length ix)))) := WP.same_new ht
      have t8 : (upd H7 t (.tup (WP.iL (MSt.row ws.length ix)))) t = some (.tup (WP.iL (MSt.row ws.length ix))) := upd_same
      generalize upd H7 t _ = H8 at e8 t8 ⊢
      k_updF
      have g8 := e8 _ _ (e7 _ _ g6)
      have d8 := e8 _ _ (e7 _ _ d6)
      have ntG : t ≠ G := fun z => by rw [z, g8] at t8; cases t8
      have gl := gr.1
      rw [List.length_take, List.length_map] at gl
      refine WP.appL g8 (by rw [sizeLine_eq]; omega) ?_
      have s9 : Same H (upd H8 G (.lst (ys ++ [.ref t]))) := WP.same_mut ((e6.trans e7).trans e8) hGH
      refine ⟨_, _, _, _, _, _, _, _, rfl, s9, by rw [upd_ne nGD]; exact d8, upd_same, ?_⟩
      have kp : ∀ b us, SqT K H8 b us → SqT K (upd H8 G (.lst (ys ++ [.ref t]))) b us := fun b us h => WP.sqtX (d := G) WP.Sx.upd g8 h
      rw [List.take_succ, List.getElem?_map, hixi]
      exact (gr.keep fun b us h => kp b us (WP.sqt (e7.trans e8) h)).snoc (SqT.of (by rw [upd_ne ntG]; exact t8))
    rintro σ' H3 ⟨z1, z4, z5, z6, z7, z8, z9, ys, rfl, e3, d3, g3, gr⟩
    rw [List.take_of_length_le (by rw [List.length_map]; omega)] at gr
    k_updF
    refine WP.tupL (SqL.of g3) (fun q hq => ?_)
    k_updF
    have e4 : Same H3 (upd H3 q (.tup ys)) := WP.same_new hq
    exact k q ys _ (e3.trans e4) (SqT.of upd_same) (gr.keep fun b us h => WP.sqt e4 h)
end
abbrev s__law_perform : Stmt := top 14
abbrev N__law_perform : List Str := ["draws", "names", "found", "first", "last", "condition", "ways"]
theorem sc__law_perform : FnScope N__law_perform ["draws", "names", "found"] (defScope s__law_perform) := ⟨rfl, rfl, rfl, by decide +kernel, rfl, by decide +kernel, by decide +kernel⟩
/-- all that stood before stands, beside the drawing and the list of what was found -/
def Sx2 (d p : Addr) (H H' : Hp) : Prop := ∀ a o, a ≠ d → a ≠ p → H a = some o → H' a = some o
structure PS (K : PySem.W.Frag) (d np fp t : Addr) (ns : DZ) (ws : List (List Nat)) (xs us : List V) (H H' : Hp) : Prop where
  ds : DS K H' d ns
  sx : Sx2 d fp H H'
  fp : H' fp = some (.lst xs)
  np : H' np = some (.lst (tL ws))
  t : H' t = some (.tup us)
theorem PS.new {K : PySem.W.Frag} {d np fp t : Addr} {ns : DZ} {ws : List (List Nat)} {xs us : List V} {H H' : Hp} {q : Addr} {o : HO} (h : PS K d np fp t ns ws xs us H H') (z : H' q = none) : PS K d np fp t ns ws xs us H (upd H' q o) :=
  ⟨(h.ds.alloc z).1, fun a u n1 n2 e => by rw [upd_ne (ne_of_none (h.sx a u n1 n2 e) z)]; exact h.sx a u n1 n2 e, by rw [upd_ne (ne_of_none h.fp z)]; exact h.fp, by rw [upd_ne (ne_of_none h.np z)]; exact h.np, by rw [upd_ne (ne_of_none h.t z)]; exact h.t⟩
theorem PS.go {K : PySem.W.Frag} {d np fp t : Addr} {ns : DZ} {ws : List (List Nat)} {xs us : List V} {H H' G : Hp} {q : Addr} {o : HO} (h : PS K d np fp t ns ws xs us H H') (z : H' q = none) (e : upd H' q o = G) : PS K d np fp t ns ws xs us H G := e ▸ h.new z
theorem kp {H' G : Hp} {q W : Addr} {o u : HO} (g : H' W = some u) (z : H' q = none) (e : upd H' q o = G) : G W = some u := by rw [← e, upd_ne (ne_of_none g z)]; exact g
theorem PS.mut {K : PySem.W.Frag} {d np fp t : Addr} {ns : DZ} {ws : List (List Nat)} {xs us : List V} {H H' : Hp} {q : Addr} {o : HO} (h : PS K d np fp t ns ws xs us H H') (n1 : q ≠ d ∧ q ≠ ns.1) (n2 : fp ≠ q) (n3 : np ≠ q) (n4 : t ≠ q) (z : H q = none) : PS K d np fp t ns ws xs us H (upd H' q o) :=
  ⟨h.ds.mut n1, fun a u m1 m2 e => by rw [upd_ne (ne_of_none e z)]; exact h.sx a u m1 m2 e, by rw [upd_ne n2]; exact h.fp, by rw [upd_ne n3]; exact h.np, by rw [upd_ne n4]; exact h.t⟩
theorem at_upd {H' G : Hp} {q : Addr} {o : HO} (e : upd H' q o = G) : G q = some o := by rw [← e]; exact upd_same
theorem ixE {G : Hp} {W : Addr} {ls : List V} {i : Int} (_ : G W = some (.lst ls)) (h0 : 0 ≤ i) (h1 : i < (ls.length : Int)) : ∃ v, atI ls i = some v := by
  obtain ⟨c, _, h⟩ := WP.at_M (l := ls) id h0 h1
  rw [List.map_id] at h
  exact ⟨_, h⟩
theorem PS.free {K : PySem.W.Frag} {d np fp t : Addr} {ns : DZ} {ws : List (List Nat)} {xs us : List V} {H H' : Hp} {q : Addr} (h : PS K d np fp t ns ws xs us H H') (z : H' q = none) : H q = none := by
  cases e : H q with
  | none => rfl
  | some o => have := h.sx q o (h.ds.new z).1 (Ne.symm (ne_of_none h.fp z)) e; rw [z] at this; cases this
def PERF : List Nat := [112, 101, 114, 102, 111, 114, 109]
def sp__law_perform (K : PySem.W.Frag) (mg : WP.MG) : Sp := fun vs H Q _ => ∃ (d np fp : Addr) (ns : DZ) (ws : List (List Nat)) (fs : List V), vs = [.ref d, .ref np, .ref fp] ∧ DS K H d ns ∧ H np = some (.lst (tL ws)) ∧ np ≠ d ∧ np ≠ fp ∧ 1 ≤ ws.length ∧ ws.length ≤ 40 ∧ H fp = some (.lst fs) ∧ fp ≠ d ∧ fp ≠ ns.1 ∧ fs.length ≤ 10000 ∧ ∀ (a t : Addr) (H' : Hp) (f l : List Nat) (i j : Nat) (w : V), ws[i]? = some f → ws[j]? = some l → i ≤ j → Sx2 d fp H H' → DS K H' d ns → H a = none → H' fp = some (.lst (fs ++ [.ref t])) → H t = none → H' t = some (.tup [.str (SX.S f), .str (SX.S l)]) → H' a = some (.tup [.str (SX.S PERF), .str (SX.S f), .str (SX.S l), w]) → Q (.ref a) H'
section
variable {P : Program} {w : World} {K : PySem.W.Frag} {mg : Str → Option Value} {base : Heap}
theorem ok__law_perform {f : Addr} {fd : FuncData} (F : Fun K "_law_perform" "_law_perform" s__law_perform f fd) (B : Blt w K mg) (c__law_draw : WP.Callee P w K mg base CX0 1 "_law_draw" ["draws", "limit"] (sp__law_draw K mg)) : FnOk P w K mg base CX0 2 f fd ["draws", "names", "found"] (sp__law_perform K mg) := by
  refine F.ok sc__law_perform (fun vs H Q E h => ?_) (fun cdv A outer s H vs Q E hr h => ?_)
  · first | (obtain ⟨_, rfl, _⟩ := h; rfl) | (obtain ⟨_, _, rfl, _⟩ := h; rfl) | (obtain ⟨_, _, _, rfl, _⟩ := h; rfl) | (obtain ⟨_, _, _, _, rfl, _⟩ := h; rfl) | (obtain ⟨_, _, _, _, _, rfl, _⟩ := h; rfl) | (obtain ⟨_, _, _, _, _, _, rfl, _⟩ := h; rfl) | (obtain ⟨_, _, _, _, _, _, _, rfl, _⟩ := h; rfl) | (obtain ⟨_, _, _, _, _, _, _, _, rfl, _⟩ := h; rfl) | (obtain ⟨rfl, _⟩ := h; rfl)
  · obtain ⟨d, np, fp, ns, ws, fs, rfl, hd, hn, nd, nf, w1, w40, hf, fd, fn, lf, k⟩ := h
    have wl : (tL ws).length = ws.length := List.length_map ..
    refine ⟨_, (pss_cons (ps_set (i := 3) sc__law_perform.nd rfl (Or.inl rfl) (WP.pe_callC c__law_draw hr rfl pass0 (WP.pa_consN (pv 0) (WP.pa_consN (pe_callB WP.c_len (by rfl) B.b_len (by decide +kernel) (WP.pa_consN (pv 1) pa_nil)) pa_nil))))
      (pss_cons (ps_set (i := 4) sc__law_perform.nd rfl (Or.inl rfl) (pe_op op_add (pv 3) (pe_ix ix_list (pe_lst (WP.pa_consN pe_int (WP.pa_consN (WP.pe_callC c__law_draw hr rfl pass0 (WP.pa_consN (pv 0) (WP.pa_consN (pe_op op_sub (pe_callB WP.c_len (by rfl) B.b_len (by decide +kernel) (WP.pa_consN (pv 1) pa_nil)) (pv 3)) pa_nil))) pa_nil))) (WP.pe_callC c__law_draw hr rfl pass0 (WP.pa_consN (pv 0) (WP.pa_consN pe_int pa_nil))) (fun _ _ => rfl))))
      (pss_cons (ps_expr (pe_bm PySem.F.plainAttrs_list PySem.F.slot_list_append PySem.F.type_list_append mt_append (pv 2) (WP.pa_consN (pe_tup (WP.pa_consN (pe_ix ix_list (pv 1) (pv 3) (fun _ _ => rfl)) (WP.pa_consN (pe_ix ix_list (pv 1) (pv 4) (fun _ _ => rfl)) pa_nil))) pa_nil)))
      (pss_cons (ps_set (i := 5) sc__law_perform.nd rfl (Or.inl rfl) (pe_tup (WP.pa_consN (WP.pe_strL [99, 111, 109, 112, 97, 114, 101] (by decide +kernel)) (WP.pa_consN (WP.pe_strL [61] (by decide +kernel)) (WP.pa_consN (pe_tup (WP.pa_consN (WP.pe_strL [114, 101, 102] (by decide +kernel)) (WP.pa_consN (pe_tup (WP.pa_consN (WP.pe_strL [97] (by decide +kernel)) (WP.pa_consN (pe_tup pa_nil) pa_nil))) pa_nil))) (WP.pa_consN (pe_tup (WP.pa_consN (WP.pe_strL [110, 117, 109, 98, 101, 114] (by decide +kernel)) (WP.pa_consN (pe_tup (WP.pa_consN pe_int (WP.pa_consN pe_int pa_nil))) pa_nil))) pa_nil))))))
      (pss_cons (ps_set (i := 6) sc__law_perform.nd rfl (Or.inl rfl) (pe_lst (WP.pa_consN (pe_tup (WP.pa_consN (WP.pe_strL [111, 110, 99, 101] (by decide +kernel)) pa_nil)) (WP.pa_consN (pe_tup (WP.pa_consN (WP.pe_strL [116, 105, 109, 101, 115] (by decide +kernel)) (WP.pa_consN (pe_tup (WP.pa_consN (WP.pe_strL [110, 117, 109, 98, 101, 114] (by decide +kernel)) (WP.pa_consN (pe_tup (WP.pa_consN pe_int (WP.pa_consN pe_int pa_nil))) pa_nil))) pa_nil))) (WP.pa_consN (pe_tup (WP.pa_consN (WP.pe_strL [117, 110, 116, 105, 108] (by decide +kernel)) (WP.pa_consN (pv 5) pa_nil))) pa_nil)))))
      (pss_cons (ps_expr (pe_bm PySem.F.plainAttrs_list PySem.F.slot_list_append PySem.F.type_list_append mt_append (pv 6) (WP.pa_consN (pe_tup (WP.pa_consN (WP.pe_strL [118, 97, 114, 121, 105, 110, 103] (by decide +kernel)) (WP.pa_consN (pe_tup (WP.pa_consN (WP.pe_strL [97] (by decide +kernel)) (WP.pa_consN (pe_tup pa_nil) pa_nil))) (WP.pa_consN (pe_tup (WP.pa_consN (WP.pe_strL [110, 117, 109, 98, 101, 114] (by decide +kernel)) (WP.pa_consN (pe_tup (WP.pa_consN pe_int (WP.pa_consN pe_int pa_nil))) pa_nil))) (WP.pa_consN (pe_tup (WP.pa_consN (WP.pe_strL [110, 117, 109, 98, 101, 114] (by decide +kernel)) (WP.pa_consN (pe_tup (WP.pa_consN pe_int (WP.pa_consN pe_int pa_nil))) pa_nil))) (WP.pa_consN (pv 5) pa_nil)))))) pa_nil)))
      (pss_one (ps_ret (pe_tup (WP.pa_consN (WP.pe_strL [112, 101, 114, 102, 111, 114, 109] (by decide +kernel)) (WP.pa_consN (pe_ix ix_list (pv 1) (pv 3) (fun _ _ => rfl)) (WP.pa_consN (pe_ix ix_list (pv 1) (pv 4) (fun _ _ => rfl)) (WP.pa_consN (pe_ix ix_list (pv 6) (WP.pe_callC c__law_draw hr rfl pass0 (WP.pa_consN (pv 0) (WP.pa_consN pe_int pa_nil))) (fun _ _ => rfl)) pa_nil))))))))))))), ?_⟩
    k_updF
    refine WP.lenL (SqL.of hn) ?_
    rw [wl]
    k_updF
    refine ⟨d, ns, _, rfl, by omega, WP.bt8 (by omega), hd, fun i H1 i0 i1 s1 hd1 => ?_⟩
    obtain ⟨i, rfl⟩ : ∃ n : Nat, i = n := ⟨i.toNat, by omega⟩
    have hn1 := s1 _ _ nd hn
    k_updF
    refine WP.lenL (SqL.of hn1) ?_
    rw [wl]
    k_updF
    refine ⟨d, ns, _, rfl, by omega, WP.bt8 (by omega), hd1, fun j H2 j0 j1 s2 hd2 => ?_⟩
    obtain ⟨j, rfl⟩ : ∃ n : Nat, j = n := ⟨j.toNat, by omega⟩
    have s12 := s1.trans s2
    k_updF
    refine ⟨Nat.le_of_ble_eq_true rfl, fun x hx => ?_⟩
    obtain ⟨hd3, nx, s3, gx⟩ := hd2.alloc (o := .lst [.int 0, .int (j : Int)]) hx
    generalize upd H2 x _ = H3 at hd3 s3 gx ⊢
    k_updF
    refine ⟨d, ns, _, rfl, by decide, WP.bt8 (by decide), hd3, fun b H4 b0 b1 s4 hd4 => ?_⟩
    have gx := s4 _ _ nx gx
    have s14 := s12.trans (s3.trans s4)
    have hz : ∃ z : Nat, (z = 0 ∨ z = j) ∧ atI [V.int 0, V.int (j : Int)] b = some (.int (z : Int)) := by
      rcases (show b = 0 ∨ b = 1 by omega) with q | q
      · subst q; exact ⟨0, .inl rfl, rfl⟩
      · subst q; exact ⟨j, .inr rfl, rfl⟩
    obtain ⟨z, hz, az⟩ := hz
    refine WP.ixL (SqL.of gx) az ?_
    k_updF
    have hn4 := s14 _ _ nd hn
    have hf4 := s14 _ _ fd hf
    have hi : i < ws.length := by omega
    have hj : i + z < ws.length := by rcases hz with q | q <;> omega
    obtain ⟨f1, ef⟩ : ∃ f1, ws[i]? = some f1 := ⟨_, List.getElem?_eq_getElem hi⟩
    obtain ⟨l1, el⟩ : ∃ l1, ws[i + z]? = some l1 := ⟨_, List.getElem?_eq_getElem hj⟩
    have af : atI (tL ws) (i : Int) = some (.str (SX.S f1)) := atI_nat (by show (ws.map _)[i]? = _; rw [List.getElem?_map, ef]; rfl)
    have al : atI (tL ws) ((i : Int) + (z : Int)) = some (.str (SX.S l1)) := by
      rw [show (i : Int) + (z : Int) = ((i + z : Nat) : Int) by omega]
      exact atI_nat (by show (ws.map _)[i + z]? = _; rw [List.getElem?_map, el]; rfl)
    refine WP.tyL (SqL.of hf4) ?_
    k_updF
    refine WP.ixL (SqL.of hn4) af ?_
    k_updF
    refine WP.ixL (SqL.of hn4) al ?_
    k_updF
    refine ⟨Nat.le_of_ble_eq_true rfl, fun t ht => ?_⟩
    obtain ⟨hd5, nt, s5, gt⟩ := hd4.alloc (o := .tup [.str (SX.S f1), .str (SX.S l1)]) ht
    have hf5 := s5 _ _ fd hf4
    have hn5 := s5 _ _ nd hn4
    generalize upd H4 t _ = H5 at hd5 s5 gt hf5 hn5 ⊢
    k_updF
    refine WP.appL hf5 (by rw [sizeLine_eq]; omega) ?_
    have tf : t ≠ fp := Ne.symm (ne_of_none hf4 ht)
    have h6 : PS K d np fp t ns ws (fs ++ [.ref t]) [.str (SX.S f1), .str (SX.S l1)] H (upd H5 fp (.lst (fs ++ [.ref t]))) :=
      ⟨hd5.mut ⟨fd, fn⟩, fun a u n1 n2 e => by rw [upd_ne n2]; exact s5 _ _ n1 (s14 _ _ n1 e), upd_same, by rw [upd_ne nf]; exact hn5, by rw [upd_ne tf]; exact gt⟩
    generalize upd H5 fp _ = H6 at h6 ⊢
    clear hd5 s5 gt hf5 hn5 hd4 hd3 hd2 hd1
    k_updF
    iterate 11
      refine ⟨Nat.le_of_ble_eq_true rfl, fun q hq => ?_⟩
      generalize hG : upd _ q _ = G
      replace h6 := h6.go hq hG
      clear hG
      clear hq
      k_updF
    refine ⟨Nat.le_of_ble_eq_true rfl, fun W hW => ?_⟩
    have nW := h6.ds.new hW
    have w2 := ne_of_none h6.fp hW
    have w3 := ne_of_none h6.np hW
    have w4 := ne_of_none h6.t hW
    have w5 : H W = none := by
      cases q : H W with
      | none => rfl
      | some o => have := h6.sx W o nW.1 (Ne.symm w2) q; rw [hW] at this; cases this
    generalize hG : upd _ W _ = G
    have gW := at_upd hG
    replace h6 := h6.go hW hG
    clear hG
    k_updF
    refine WP.tyL (SqL.of gW) ?_
    k_updF
    iterate 7
      refine ⟨Nat.le_of_ble_eq_true rfl, fun q hq => ?_⟩
      generalize hG : upd _ q _ = G
      replace h6 := h6.go hq hG
      replace gW := kp gW hq hG
      clear hG
      k_updF
    refine WP.appL gW (by rw [sizeLine_eq]; show 3 < 16777216; decide) ?_
    generalize hG : upd _ W _ = G
    replace h6 : PS K d np fp t ns ws _ _ H G := hG ▸ h6.mut nW w2 w3 w4 w5
    replace gW := at_upd hG
    clear hG
    k_updF
    refine WP.ixL (SqL.of h6.np) af ?_
    k_updF
    refine WP.ixL (SqL.of h6.np) al ?_
    k_updF
    refine ⟨d, ns, _, rfl, by decide, WP.bt8 (by decide), h6.ds, fun c H8 c0 c1 s8 hd8 => ?_⟩
    have gW := s8 _ _ nW.1 gW
    obtain ⟨wv, aw⟩ := ixE gW c0 (by show c < ((4 : Nat) : Int); exact c1)
    refine WP.ixL (SqL.of gW) aw ?_
    k_updF
    refine ⟨Nat.le_of_ble_eq_true rfl, fun a ha => ?_⟩
    have h8 : PS K d np fp t ns ws _ _ H H8 := ⟨hd8, fun a u m1 m2 e => s8 _ _ m1 (h6.sx a u m1 m2 e), s8 _ _ fd h6.fp, s8 _ _ nd h6.np, s8 _ _ nt h6.t⟩
    have h9 := h8.new ha (o := .tup [.str (SX.S [112, 101, 114, 102, 111, 114, 109]), .str (SX.S f1), .str (SX.S l1), wv])
    exact k a t _ f1 l1 i (i + z) wv ef el (by omega) h9.sx h9.ds (h8.free ha) h9.fp (sx_free s14 nt ht) h9.t upd_same
end
abbrev s__law_statement : Stmt := top 16
abbrev N__law_statement : List Str := ["draws", "names", "found", "levels", "kind", "others", "then", "at_end", "inner"]
theorem sc__law_statement : FnScope N__law_statement ["draws", "names", "found", "levels"] (defScope s__law_statement) := ⟨rfl, rfl, rfl, by decide +kernel, rfl, by decide +kernel, by decide +kernel⟩
theorem sqt2 {K : PySem.W.Frag} {d p b : Addr} {H H' : Hp} {xs ys us : List V} (e : Sx2 d p H H') (hd : H d = some (.lst xs)) (hp : H p = some (.lst ys)) (h : SqT K H b us) : SqT K H' b us := by
  rcases h with (h | ⟨o, h⟩) | h
  · exact .inl (.inl (e _ _ (fun z => by rw [z, hd] at h; cases h) (fun z => by rw [z, hp] at h; cases h) h))
  · exact .inl (.inr ⟨o, e _ _ (fun z => by rw [z, hd] at h; cases h) (fun z => by rw [z, hp] at h; cases h) h⟩)
  · exact .inr h
theorem Sx2.trans {d p : Addr} {H H' H2 : Hp} (a : Sx2 d p H H') (b : Sx2 d p H' H2) : Sx2 d p H H2 := fun x u m n e => b x u m n (a x u m n e)
theorem Sx2.of {d p : Addr} {H H' : Hp} (a : Same H H') : Sx2 d p H H' := fun x u _ _ e => a x u e
theorem Sx2.ofX {d p : Addr} {H H' : Hp} (a : WP.Sx d H H') : Sx2 d p H H' := fun x u m _ e => a x u m e
theorem Sx2.mut {d p q : Addr} {H H' : Hp} {o : HO} (a : Sx2 d p H H') (h : H q = none) : Sx2 d p H (upd H' q o) := fun x u m n e => by rw [upd_ne (ne_of_none e h)]; exact a x u m n e
/-- what stands beside the drawing of statements -/
structure BI (K : PySem.W.Frag) (H : Hp) (d np fp : Addr) (ns : DZ) (ws : List (List Nat)) (fs : List V) : Prop where
  ds : DS K H d ns
  hn : H np = some (.lst (tL ws))
  nd : np ≠ d
  nf : np ≠ fp
  w1 : 1 ≤ ws.length
  w40 : ws.length ≤ 40
  hf : H fp = some (.lst fs)
  fd : fp ≠ d
  fn : fp ≠ ns.1
theorem BI.go {K : PySem.W.Frag} {H H' : Hp} {d np fp : Addr} {ns : DZ} {ws : List (List Nat)} {fs gs : List V} (h : BI K H d np fp ns ws fs) (e : Sx2 d fp H H') (hd : DS K H' d ns) (hf : H' fp = some (.lst gs)) : BI K H' d np fp ns ws gs :=
  ⟨hd, e _ _ h.nd h.nf h.hn, h.nd, h.nf, h.w1, h.w40, hf, h.fd, h.fn⟩
theorem BI.same {K : PySem.W.Frag} {H H' : Hp} {d np fp : Addr} {ns : DZ} {ws : List (List Nat)} {fs : List V} (h : BI K H d np fp ns ws fs) (e : Same H H') : BI K H' d np fp ns ws fs :=
  ⟨h.ds.same e, e _ _ h.hn, h.nd, h.nf, h.w1, h.w40, e _ _ h.hf, h.fd, h.fn⟩
theorem BI.sx {K : PySem.W.Frag} {H H' : Hp} {d np fp : Addr} {ns : DZ} {ws : List (List Nat)} {fs : List V} (h : BI K H d np fp ns ws fs) (e : WP.Sx d H H') (hd : DS K H' d ns) : BI K H' d np fp ns ws fs :=
  ⟨hd, e _ _ h.nd h.hn, h.nd, h.nf, h.w1, h.w40, e _ _ h.fd h.hf, h.fd, h.fn⟩
theorem BI.kp {K : PySem.W.Frag} {H H' : Hp} {d np fp : Addr} {ns : DZ} {ws : List (List Nat)} {fs : List V} (h : BI K H d np fp ns ws fs) (e : Sx2 d fp H H') : ∀ b us, SqT K H b us → SqT K H' b us := fun b us z => by
  obtain ⟨xs, hx⟩ := h.ds.lst
  exact sqt2 e hx h.hf z
/-- a statement without inner ones -/
def OtA (K : PySem.W.Frag) (H : Hp) (v : V) : Prop := ∃ a kd ss vs, v = .ref a ∧ kd ≠ MSt.PERF ∧ (kd, ss) ∈ TAB ∧ SqT K H a (.str (SX.S kd) :: vs) ∧ vs.length = ss.length ∧ ∀ s ∈ ss, s ∉ INN
theorem OtA.mk {K : PySem.W.Frag} {H : Hp} {a : Addr} {kd : List Nat} {ss : List (List Nat)} {vs : List V} (g : H a = some (.tup (.str (SX.S kd) :: vs))) (h0 : kd ≠ MSt.PERF) (h1 : (kd, ss) ∈ TAB) (hl : vs.length = ss.length) (h2 : ∀ s ∈ ss, s ∉ INN) : OtA K H (.ref a) := ⟨a, kd, ss, vs, rfl, h0, h1, SqT.of g, hl, h2⟩
theorem OtA.keep {K : PySem.W.Frag} {H H' : Hp} {v : V} (h : OtA K H v) (e : Same H H') : OtA K H' v := by
  obtain ⟨a, kd, ss, vs, h1, h2, h3, h4, h5⟩ := h
  exact ⟨a, kd, ss, vs, h1, h2, h3, WP.sqt e h4, h5⟩
theorem inn_none {K : PySem.W.Frag} {H : Hp} {I : List (List Nat)} : ∀ {ss : List (List Nat)} {vs : List V}, vs.length = ss.length → (∀ s ∈ ss, s ∉ I) → MSt.Inn K H I ss vs []
  | [], [], _, _ => .nil
  | [], _ :: _, h, _ => by cases h
  | _ :: _, [], h, _ => by cases h
  | s :: ss, v :: vs, h, k => .no (k s List.mem_cons_self) (inn_none (by simpa using h) fun t ht => k t (List.mem_cons_of_mem _ ht))
theorem OtA.st {K : PySem.W.Frag} {H : Hp} {v : V} {n : Nat} (h : OtA K H v) : MSt.StA K H INN TAB (n + 1) v [] := by
  obtain ⟨a, kd, ss, vs, h1, h2, h3, h4, h5, h6⟩ := h
  exact ⟨a, h1, .inr ⟨kd, ss, vs, [], h2, h3, h4, inn_none h5 h6, Nat.zero_le _, MSt.Cat.nil⟩⟩
theorem OtA.kp {K : PySem.W.Frag} {H H' : Hp} {v : V} (h : OtA K H v) (e : ∀ b us, SqT K H b us → SqT K H' b us) : OtA K H' v := by
  obtain ⟨a, kd, ss, vs, h1, h2, h3, h4, h5⟩ := h
  exact ⟨a, kd, ss, vs, h1, h2, h3, e _ _ h4, h5⟩
theorem st_mk {K : PySem.W.Frag} {H : Hp} {a : Addr} {kd : List Nat} {ss : List (List Nat)} {vs bl : List V} {ps : List MSt.PP} {n : Nat} (g : SqT K H a (.str (SX.S kd) :: vs)) (h0 : kd ≠ MSt.PERF) (h1 : (kd, ss) ∈ TAB) (hi : MSt.Inn K H INN ss vs bl) (hb : bl.length ≤ 1000) (hc : MSt.Cat (MSt.StA K H INN TAB n) bl ps) : MSt.StA K H INN TAB (n + 1) (.ref a) ps :=
  ⟨a, rfl, .inr ⟨kd, ss, vs, bl, h0, h1, g, hi, hb, hc⟩⟩
theorem cat_keep {K : PySem.W.Frag} {H H' : Hp} {n : Nat} {us : List V} {ps : List MSt.PP} (k : ∀ b us, SqT K H b us → SqT K H' b us) (h : MSt.Cat (MSt.StA K H INN TAB n) us ps) : MSt.Cat (MSt.StA K H' INN TAB n) us ps := h.mono fun _ _ z => z.keep k
def sp__law_statement (K : PySem.W.Frag) (mg : WP.MG) : Nat → Sp
  | 0 => fun _ _ _ _ => False
  | n + 1 => fun vs H Q _ => ∃ (d np fp : Addr) (ns : DZ) (ws : List (List Nat)) (fs : List V), vs = [.ref d, .ref np, .ref fp, .int ((n + 1 : Nat) : Int)] ∧ BI K H d np fp ns ws fs ∧ fs.length + 4 ^ n ≤ 5000 ∧
      ∀ (v : V) (ps : List MSt.PP) (rs : List V) (H' : Hp), MSt.StA K H' INN TAB (n + 1) v ps → ps.length ≤ 4 ^ n → MSt.PrA K H' rs ps → MSt.IxP ws ps → Sx2 d fp H H' → DS K H' d ns → H' fp = some (.lst (fs ++ rs)) → Q v H'
def sp__law_block (K : PySem.W.Frag) (mg : WP.MG) : Nat → Sp
  | 0 => fun _ _ _ _ => False
  | n + 1 => fun vs H Q _ => ∃ (d np fp : Addr) (ns : DZ) (ws : List (List Nat)) (fs : List V) (least : Int), vs = [.ref d, .ref np, .ref fp, .int ((n + 1 : Nat) : Int), .int least] ∧ 0 ≤ least ∧ least ≤ 1 ∧ BI K H d np fp ns ws fs ∧ fs.length + 2 * 4 ^ n ≤ 5000 ∧
      ∀ (b : Addr) (us : List V) (ps : List MSt.PP) (rs : List V) (H' : Hp), SqT K H' b us → us.length ≤ 2 → MSt.Cat (MSt.StA K H' INN TAB (n + 1)) us ps → ps.length ≤ 2 * 4 ^ n → MSt.PrA K H' rs ps → MSt.IxP ws ps → Sx2 d fp H H' → DS K H' d ns → H' fp = some (.lst (fs ++ rs)) → Q (.ref b) H'
section
variable {P : Program} {w : World} {K : PySem.W.Frag} {mg : Str → Option Value} {base : Heap}
theorem ok__law_statement {f : Addr} {fd : FuncData} (F : Fun K "_law_statement" "_law_statement" s__law_statement f fd) (B : Blt w K mg) (c__law_draw : WP.Callee P w K mg base CX0 1 "_law_draw" ["draws", "limit"] (sp__law_draw K mg)) (c__law_perform : WP.Callee P w K mg base CX0 2 "_law_perform" ["draws", "names", "found"] (sp__law_perform K mg)) {nn : Nat} (c__law_block : WP.Callee P w K mg base CX0 (2 + 2 * nn + 2) "_law_block" ["draws", "names", "found", "levels", "least"] (sp__law_block K mg nn)) : FnOk P w K mg base CX0 (2 + 2 * nn + 3) f fd ["draws", "names", "found", "levels"] (sp__law_statement K mg (nn + 1)) := by
  refine F.ok sc__law_statement (fun vs H Q E h => ?_) (fun cdv A outer s H vs Q E hr h => ?_)
  · first | (obtain ⟨_, rfl, _⟩ := h; rfl) | (obtain ⟨_, _, rfl, _⟩ := h; rfl) | (obtain ⟨_, _, _, rfl, _⟩ := h; rfl) | (obtain ⟨_, _, _, _, rfl, _⟩ := h; rfl) | (obtain ⟨_, _, _, _, _, rfl, _⟩ := h; rfl) | (obtain ⟨_, _, _, _, _, _, rfl, _⟩ := h; rfl) | (obtain ⟨_, _, _, _, _, _, _, rfl, _⟩ := h; rfl) | (obtain ⟨_, _, _, _, _, _, _, _, rfl, _⟩ := h; rfl) | (obtain ⟨rfl, _⟩ := h; rfl)
  · obtain ⟨d, np, fp, ns, ws, fs, rfl, bi, hz, k⟩ := h
    refine ⟨_, (pss_cons (ps_set (i := 4) sc__law_statement.nd rfl (Or.inl rfl) (WP.pe_callC (hl := by omega) c__law_draw hr rfl pass0 (WP.pa_consN (pv 0) (WP.pa_consN pe_int pa_nil))))
      (pss_cons (ps_if (pt_cmpR op_lt (pv 4) pe_int (nomark _)) (pss_one (ps_ret (WP.pe_callC (hl := by omega) c__law_perform hr rfl pass0 (WP.pa_consN (pv 0) (WP.pa_consN (pv 1) (WP.pa_consN (pv 2) pa_nil)))))) pss_nil)
      (pss_cons (ps_if (PW.pt (pw_or (pt_cmpR op_lt (pv 4) pe_int (nomark _)) (pw_or1 (pt_cmpR op_eq (pv 3) pe_int (nomark _))))) (pss_cons (ps_set (i := 5) sc__law_statement.nd rfl (Or.inl rfl) (pe_lst (WP.pa_consN (pe_tup (WP.pa_consN (WP.pe_strL [115, 116, 111, 112] (by decide +kernel)) pa_nil)) (WP.pa_consN (pe_tup (WP.pa_consN (WP.pe_strL [119, 114, 105, 116, 101] (by decide +kernel)) (WP.pa_consN (WP.pe_strL [102] (by decide +kernel)) pa_nil))) (WP.pa_consN (pe_tup (WP.pa_consN (WP.pe_strL [99, 108, 101, 97, 114] (by decide +kernel)) (WP.pa_consN (pe_tup (WP.pa_consN (WP.pe_strL [97] (by decide +kernel)) (WP.pa_consN (pe_tup pa_nil) pa_nil))) pa_nil))) (WP.pa_consN (pe_tup (WP.pa_consN (WP.pe_strL [115, 104, 111, 119] (by decide +kernel)) (WP.pa_consN (pe_tup (WP.pa_consN (pe_tup (WP.pa_consN (WP.pe_strL [116, 101, 120, 116] (by decide +kernel)) (WP.pa_consN (WP.pe_strL [112, 101, 114, 102, 111, 114, 109] (by decide +kernel)) pa_nil))) pa_nil)) pa_nil))) (WP.pa_consN (pe_tup (WP.pa_consN (WP.pe_strL [115, 111, 114, 116] (by decide +kernel)) (WP.pa_consN (WP.pe_strL [116] (by decide +kernel)) (WP.pa_consN (WP.pe_strL [107] (by decide +kernel)) (WP.pa_consN pe_bl pa_nil))))) pa_nil)))))))
      (pss_one (ps_ret (pe_ix ix_list (pe_op op_cat (pv 5) (pe_lst (WP.pa_consN (pe_tup (WP.pa_consN (WP.pe_strL [109, 111, 118, 101] (by decide +kernel)) (WP.pa_consN (pe_tup (WP.pa_consN (WP.pe_strL [110, 117, 109, 98, 101, 114] (by decide +kernel)) (WP.pa_consN (pe_tup (WP.pa_consN pe_int (WP.pa_consN pe_int pa_nil))) pa_nil))) (WP.pa_consN (pe_tup (WP.pa_consN (WP.pe_strL [97] (by decide +kernel)) (WP.pa_consN (pe_tup pa_nil) pa_nil))) pa_nil)))) pa_nil))) (WP.pe_callC (hl := by omega) c__law_draw hr rfl pass0 (WP.pa_consN (pv 0) (WP.pa_consN pe_int pa_nil))) (fun _ _ => rfl))))) pss_nil)
      (pss_cons (ps_if (pt_cmpR op_eq (pv 4) pe_int (nomark _)) (pss_cons (ps_set (i := 6) sc__law_statement.nd rfl (Or.inl rfl) (WP.pe_callC (hl := by omega) c__law_block hr rfl pass0 (WP.pa_consN (pv 0) (WP.pa_consN (pv 1) (WP.pa_consN (pv 2) (WP.pa_consN (pe_op op_sub (pv 3) pe_int) (WP.pa_consN pe_int pa_nil)))))))
      (pss_one (ps_ret (pe_tup (WP.pa_consN (WP.pe_strL [105, 102] (by decide +kernel)) (WP.pa_consN (pe_tup (WP.pa_consN (WP.pe_strL [100, 105, 103, 105, 116, 115] (by decide +kernel)) (WP.pa_consN (pe_tup (WP.pa_consN (WP.pe_strL [97] (by decide +kernel)) (WP.pa_consN (pe_tup pa_nil) pa_nil))) pa_nil))) (WP.pa_consN (pv 6) (WP.pa_consN (WP.pe_callC (hl := by omega) c__law_block hr rfl pass0 (WP.pa_consN (pv 0) (WP.pa_consN (pv 1) (WP.pa_consN (pv 2) (WP.pa_consN (pe_op op_sub (pv 3) pe_int) (WP.pa_consN pe_int pa_nil)))))) pa_nil)))))))) pss_nil)
      (pss_cons (ps_if (pt_cmpR op_eq (pv 4) pe_int (nomark _)) (pss_cons (ps_set (i := 7) sc__law_statement.nd rfl (Or.inl rfl) (WP.pe_callC (hl := by omega) c__law_block hr rfl pass0 (WP.pa_consN (pv 0) (WP.pa_consN (pv 1) (WP.pa_consN (pv 2) (WP.pa_consN (pe_op op_sub (pv 3) pe_int) (WP.pa_consN pe_int pa_nil)))))))
      (pss_one (ps_ret (pe_tup (WP.pa_consN (WP.pe_strL [114, 101, 97, 100] (by decide +kernel)) (WP.pa_consN (WP.pe_strL [102] (by decide +kernel)) (WP.pa_consN (pv 7) (WP.pa_consN (WP.pe_callC (hl := by omega) c__law_block hr rfl pass0 (WP.pa_consN (pv 0) (WP.pa_consN (pv 1) (WP.pa_consN (pv 2) (WP.pa_consN (pe_op op_sub (pv 3) pe_int) (WP.pa_consN pe_int pa_nil)))))) pa_nil)))))))) pss_nil)
      (pss_cons (ps_set (i := 8) sc__law_statement.nd rfl (Or.inl rfl) (WP.pe_callC (hl := by omega) c__law_block hr rfl pass0 (WP.pa_consN (pv 0) (WP.pa_consN (pv 1) (WP.pa_consN (pv 2) (WP.pa_consN (pe_op op_sub (pv 3) pe_int) (WP.pa_consN pe_int pa_nil)))))))
      (pss_cons (ps_if (pt_cmpR op_eq (pv 4) pe_int (nomark _)) (pss_one (ps_ret (pe_tup (WP.pa_consN (WP.pe_strL [115, 101, 116] (by decide +kernel)) (WP.pa_consN (pe_tup (WP.pa_consN (WP.pe_strL [97] (by decide +kernel)) (WP.pa_consN (pe_tup pa_nil) pa_nil))) (WP.pa_consN pe_bl (WP.pa_consN (pe_tup (WP.pa_consN (WP.pe_strL [110, 117, 109, 98, 101, 114] (by decide +kernel)) (WP.pa_consN (pe_tup (WP.pa_consN pe_int (WP.pa_consN pe_int pa_nil))) pa_nil))) (WP.pa_consN (pv 8) pa_nil)))))))) pss_nil)
      (pss_one (ps_ret (pe_tup (WP.pa_consN (WP.pe_strL [100, 105, 118, 105, 100, 101] (by decide +kernel)) (WP.pa_consN (pe_tup (WP.pa_consN (WP.pe_strL [110, 117, 109, 98, 101, 114] (by decide +kernel)) (WP.pa_consN (pe_tup (WP.pa_consN pe_int (WP.pa_consN pe_int pa_nil))) pa_nil))) (WP.pa_consN (pe_tup (WP.pa_consN (WP.pe_strL [110, 117, 109, 98, 101, 114] (by decide +kernel)) (WP.pa_consN (pe_tup (WP.pa_consN pe_int (WP.pa_consN pe_int pa_nil))) pa_nil))) (WP.pa_consN (pe_tup (WP.pa_consN (WP.pe_strL [97] (by decide +kernel)) (WP.pa_consN (pe_tup pa_nil) pa_nil))) (WP.pa_consN pe_bl (WP.pa_consN (pe_ix ix_list (pe_lst (WP.pa_consN pe_non (WP.pa_consN (pe_tup (WP.pa_consN (WP.pe_strL [98] (by decide +kernel)) (WP.pa_consN (pe_tup pa_nil) pa_nil))) pa_nil))) (WP.pe_callC (hl := by omega) c__law_draw hr rfl pass0 (WP.pa_consN (pv 0) (WP.pa_consN pe_int pa_nil))) (fun _ _ => rfl)) (WP.pa_consN (pv 8) pa_nil))))))))))))))))), ?_⟩
    k_updF
    refine ⟨d, ns, _, rfl, by decide, WP.bt8 (by decide), bi.ds, fun v H1 v0 v1 s1 hd1 => ?_⟩
    have b1 := bi.sx s1 hd1
    have kp1 : ∀ b us, SqT K H b us → SqT K H1 b us := bi.kp (Sx2.ofX s1)
    k_updF
    refine WP.br (fun c => ?_) (fun c => ?_)
    · k_updF
      refine ⟨d, np, fp, ns, ws, fs, rfl, b1.ds, b1.hn, b1.nd, b1.nf, b1.w1, b1.w40, b1.hf, b1.fd, b1.fn, Nat.le_trans (Nat.le_trans (Nat.le_add_right _ _) hz) (by decide), fun a t H2 f l i j w hi hj hij s2 hd2 ha hf2 ht gt ga => ?_⟩
      refine k (.ref a) [(f, l)] [.ref t] H2 ⟨a, rfl, .inl ⟨f, l, w, SqT.of ga, rfl⟩⟩ (by have : 0 < 4 ^ nn := Nat.pow_pos (by decide); show 1 ≤ _; omega) (MSt.PrA.one (SqT.of gt)) (fun q hq => ?_) ((Sx2.ofX s1).trans s2) hd2 hf2
      rw [List.mem_singleton.mp hq]
      exact ⟨i, j, hij, hi, hj⟩
    k_updF
    refine WP.br (fun c5 => ?A1) (fun c5 => ?_)
    rotate_left
    k_updF
    refine WP.br (fun c1 => ?A2) (fun c1 => ?B)
    case B =>
      obtain ⟨m, rfl⟩ : ∃ m, nn = m + 1 := ⟨nn - 1, by omega⟩
      rw [Nat.pow_succ] at hz k
      have pos : 0 < 4 ^ m := Nat.pow_pos (by decide)
      have lv : ((m + 1 + 1 : Nat) : Int) - 1 = ((m + 1 : Nat) : Int) := by omega
      k_updF
      refine WP.br (fun c5 => ?_) (fun c5 => ?_)
      · k_updF
        refine ⟨d, np, fp, ns, ws, fs, 1, by rw [lv]; rfl, by decide, by decide, b1, by omega, fun ba ua pa ra H2 hba hla hca hpa hra hxa s2 hd2 f2 => ?_⟩
        have b2 := b1.go s2 hd2 f2
        have e : Same H2 H2 := Same.refl _
        have lra := hra.1
        k_updF
        refine ⟨Nat.le_of_ble_eq_true rfl, fun q hq => ?_⟩
        generalize hG : upd _ q _ = G
        replace e := e.trans (hG ▸ WP.same_new hq)
        clear hq hG
        k_updF
        refine ⟨Nat.le_of_ble_eq_true rfl, fun q hq => ?_⟩
        generalize hG : upd _ q _ = G
        replace e := e.trans (hG ▸ WP.same_new hq)
        clear hq hG
        k_updF
        refine ⟨Nat.le_of_ble_eq_true rfl, fun q hq => ?_⟩
        generalize hG : upd _ q _ = G
        replace e := e.trans (hG ▸ WP.same_new hq)
        clear hq hG
        k_updF
        have b3 := b2.same e
        refine ⟨d, np, fp, ns, ws, fs ++ ra, 0, by rw [lv]; rfl, by decide, by decide, b3, by rw [List.length_append]; omega, fun bb ub pb rb H4 hbb hlb hcb hpb hrb hxb s4 hd4 f4 => ?_⟩
        have kp4 : ∀ b us, SqT K H2 b us → SqT K H4 b us := fun b us z => b3.kp s4 _ _ (WP.sqt e z)
        k_updF
        refine ⟨Nat.le_of_ble_eq_true rfl, fun T hT => ?_⟩
        generalize hG : upd H4 T _ = G5
        have e5 : Same H4 G5 := hG ▸ WP.same_new hT
        have g5 := at_upd hG
        have kp5 : ∀ b us, SqT K H4 b us → SqT K G5 b us := fun b us z => WP.sqt e5 z
        have kp2 : ∀ b us, SqT K H2 b us → SqT K G5 b us := fun b us z => kp5 _ _ (kp4 _ _ z)
        refine k (.ref T) (pa ++ (pb ++ [])) (ra ++ (rb ++ [])) G5 (st_mk (kd := [105, 102]) (ss := [[99, 111, 110, 100, 105, 116, 105, 111, 110], [116, 104, 101, 110], [115, 116, 97, 116, 101, 109, 101, 110, 116, 115]]) (SqT.of g5) (by decide) (by decide +kernel) (.no (by decide) (.yes (by decide) (kp2 _ _ hba) (.yes (by decide) (kp5 _ _ hbb) .nil))) (by simp only [List.length_append, List.length_nil]; omega) ((cat_keep kp2 hca).app ((cat_keep kp5 hcb).app MSt.Cat.nil))) (by simp only [List.length_append, List.length_nil]; omega) ((hra.keep kp2).app ((hrb.keep kp5).app MSt.PrA.nil)) (hxa.app (hxb.app MSt.IxP.nil)) ((((Sx2.ofX s1).trans s2).trans (Sx2.of e)).trans (s4.trans (Sx2.of e5))) (hd4.same e5) ?_
        rw [e5 _ _ f4, List.append_nil, List.append_assoc]
      k_updF
      refine WP.br (fun c6 => ?_) (fun c6 => ?_)
      · k_updF
        refine ⟨d, np, fp, ns, ws, fs, 0, by rw [lv]; rfl, by decide, by decide, b1, by omega, fun ba ua pa ra H2 hba hla hca hpa hra hxa s2 hd2 f2 => ?_⟩
        have b2 := b1.go s2 hd2 f2
        have e : Same H2 H2 := Same.refl _
        have lra := hra.1
        k_updF
        have b3 := b2.same e
        refine ⟨d, np, fp, ns, ws, fs ++ ra, 0, by rw [lv]; rfl, by decide, by decide, b3, by rw [List.length_append]; omega, fun bb ub pb rb H4 hbb hlb hcb hpb hrb hxb s4 hd4 f4 => ?_⟩
        have kp4 : ∀ b us, SqT K H2 b us → SqT K H4 b us := fun b us z => b3.kp s4 _ _ (WP.sqt e z)
        k_updF
        refine ⟨Nat.le_of_ble_eq_true rfl, fun T hT => ?_⟩
        generalize hG : upd H4 T _ = G5
        have e5 : Same H4 G5 := hG ▸ WP.same_new hT
        have g5 := at_upd hG
        have kp5 : ∀ b us, SqT K H4 b us → SqT K G5 b us := fun b us z => WP.sqt e5 z
        have kp2 : ∀ b us, SqT K H2 b us → SqT K G5 b us := fun b us z => kp5 _ _ (kp4 _ _ z)
        refine k (.ref T) (pa ++ (pb ++ [])) (ra ++ (rb ++ [])) G5 (st_mk (kd := [114, 101, 97, 100]) (ss := [[110, 97, 109, 101], [115, 116, 97, 116, 101, 109, 101, 110, 116, 115], [115, 116, 97, 116, 101, 109, 101, 110, 116, 115]]) (SqT.of g5) (by decide) (by decide +kernel) (.no (by decide) (.yes (by decide) (kp2 _ _ hba) (.yes (by decide) (kp5 _ _ hbb) .nil))) (by simp only [List.length_append, List.length_nil]; omega) ((cat_keep kp2 hca).app ((cat_keep kp5 hcb).app MSt.Cat.nil))) (by simp only [List.length_append, List.length_nil]; omega) ((hra.keep kp2).app ((hrb.keep kp5).app MSt.PrA.nil)) (hxa.app (hxb.app MSt.IxP.nil)) ((((Sx2.ofX s1).trans s2).trans (Sx2.of e)).trans (s4.trans (Sx2.of e5))) (hd4.same e5) ?_
        rw [e5 _ _ f4, List.append_nil, List.append_assoc]
      k_updF
      refine ⟨d, np, fp, ns, ws, fs, 0, by rw [lv]; rfl, by decide, by decide, b1, by omega, fun ba ua pa ra H2 hba hla hca hpa hra hxa s2 hd2 f2 => ?_⟩
      have b2 := b1.go s2 hd2 f2
      have e : Same H2 H2 := Same.refl _
      k_updF
      refine WP.br (fun c7 => ?_) (fun c7 => ?_)
      · k_updF
        refine ⟨Nat.le_of_ble_eq_true rfl, fun q hq => ?_⟩
        generalize hG : upd _ q _ = G
        replace e := e.trans (hG ▸ WP.same_new hq)
        clear hq hG
        k_updF
        refine ⟨Nat.le_of_ble_eq_true rfl, fun q hq => ?_⟩
        generalize hG : upd _ q _ = G
        replace e := e.trans (hG ▸ WP.same_new hq)
        clear hq hG
        k_updF
        refine ⟨Nat.le_of_ble_eq_true rfl, fun q hq => ?_⟩
        generalize hG : upd _ q _ = G
        replace e := e.trans (hG ▸ WP.same_new hq)
        clear hq hG
        k_updF
        refine ⟨Nat.le_of_ble_eq_true rfl, fun q hq => ?_⟩
        generalize hG : upd _ q _ = G
        replace e := e.trans (hG ▸ WP.same_new hq)
        clear hq hG
        k_updF
        refine ⟨Nat.le_of_ble_eq_true rfl, fun T hT => ?_⟩
        generalize hG : upd _ T _ = G5
        have g5 := at_upd hG
        replace e := e.trans (hG ▸ WP.same_new hT)
        have kp2 : ∀ b us, SqT K H2 b us → SqT K G5 b us := fun b us z => WP.sqt e z
        exact k (.ref T) (pa ++ []) (ra ++ []) G5 (st_mk (kd := [115, 101, 116]) (ss := [[114, 101, 102, 101, 114, 101, 110, 99, 101], [116, 114, 117, 116, 104], [101, 120, 112, 114, 101, 115, 115, 105, 111, 110], [115, 116, 97, 116, 101, 109, 101, 110, 116, 115]]) (SqT.of g5) (by decide) (by decide +kernel) (.no (by decide) (.no (by decide) (.no (by decide) (.yes (by decide) (kp2 _ _ hba) .nil)))) (by simp only [List.length_append, List.length_nil]; omega) ((cat_keep kp2 hca).app MSt.Cat.nil)) (by simp only [List.length_append, List.length_nil]; omega) ((hra.keep kp2).app MSt.PrA.nil) (hxa.app MSt.IxP.nil) (((Sx2.ofX s1).trans s2).trans (Sx2.of e)) (hd2.same e) (by rw [e _ _ f2, List.append_nil])
      k_updF
      refine ⟨Nat.le_of_ble_eq_true rfl, fun q hq => ?_⟩
      generalize hG : upd _ q _ = G
      replace e := e.trans (hG ▸ WP.same_new hq)
      clear hq hG
      k_updF
      refine ⟨Nat.le_of_ble_eq_true rfl, fun q hq => ?_⟩
      generalize hG : upd _ q _ = G
      replace e := e.trans (hG ▸ WP.same_new hq)
      clear hq hG
      k_updF
      refine ⟨Nat.le_of_ble_eq_true rfl, fun q hq => ?_⟩
      generalize hG : upd _ q _ = G
      replace e := e.trans (hG ▸ WP.same_new hq)
      clear hq hG
      k_updF
      refine ⟨Nat.le_of_ble_eq_true rfl, fun q hq => ?_⟩
      generalize hG : upd _ q _ = G
      replace e := e.trans (hG ▸ WP.same_new hq)
      clear hq hG
      k_updF
      refine ⟨Nat.le_of_ble_eq_true rfl, fun q hq => ?_⟩
      generalize hG : upd _ q _ = G
      replace e := e.trans (hG ▸ WP.same_new hq)
      clear hq hG
      k_updF
      refine ⟨Nat.le_of_ble_eq_true rfl, fun q hq => ?_⟩
      generalize hG : upd _ q _ = G
      replace e := e.trans (hG ▸ WP.same_new hq)
      clear hq hG
      k_updF
      refine ⟨Nat.le_of_ble_eq_true rfl, fun q hq => ?_⟩
      generalize hG : upd _ q _ = G
      replace e := e.trans (hG ▸ WP.same_new hq)
      clear hq hG
      k_updF
      refine ⟨Nat.le_of_ble_eq_true rfl, fun q hq => ?_⟩
      generalize hG : upd _ q _ = G
      replace e := e.trans (hG ▸ WP.same_new hq)
      clear hq hG
      k_updF
      refine ⟨Nat.le_of_ble_eq_true rfl, fun L hL => ?_⟩
      generalize hGL : upd _ L _ = GL
      have gL := at_upd hGL
      have nL := ((hd2.same e).new hL).1
      replace e := e.trans (hGL ▸ WP.same_new hL)
      clear hGL hL
      k_updF
      have hd3 := hd2.same e
      obtain ⟨xd, hxd⟩ := hd3.lst
      refine ⟨d, ns, _, rfl, by decide, WP.bt8 (by decide), hd3, fun z HZ z0 z1 sZ hdZ => ?_⟩
      have gZ := sZ _ _ nL gL
      obtain ⟨wv, aw⟩ := ixE gZ z0 (by show z < ((2 : Nat) : Int); exact z1)
      refine WP.ixL (SqL.of gZ) aw ?_
      k_updF
      refine ⟨Nat.le_of_ble_eq_true rfl, fun T hT => ?_⟩
      generalize hG : upd _ T _ = G5
      have g5 := at_upd hG
      have e5 : Same HZ G5 := hG ▸ WP.same_new hT
      have kp2 : ∀ b us, SqT K H2 b us → SqT K G5 b us := fun b us z => WP.sqt e5 (WP.sqtX sZ hxd (WP.sqt e z))
      exact k (.ref T) (pa ++ []) (ra ++ []) G5 (st_mk (kd := [100, 105, 118, 105, 100, 101]) (ss := [[101, 120, 112, 114, 101, 115, 115, 105, 111, 110], [101, 120, 112, 114, 101, 115, 115, 105, 111, 110], [114, 101, 102, 101, 114, 101, 110, 99, 101], [116, 114, 117, 116, 104], [114, 101, 109, 97, 105, 110, 100, 101, 114], [115, 116, 97, 116, 101, 109, 101, 110, 116, 115]]) (SqT.of g5) (by decide) (by decide +kernel) (.no (by decide) (.no (by decide) (.no (by decide) (.no (by decide) (.no (by decide) (.yes (by decide) (kp2 _ _ hba) .nil)))))) (by simp only [List.length_append, List.length_nil]; omega) ((cat_keep kp2 hca).app MSt.Cat.nil)) (by simp only [List.length_append, List.length_nil]; omega) ((hra.keep kp2).app MSt.PrA.nil) (hxa.app MSt.IxP.nil) ((((Sx2.ofX s1).trans s2).trans (Sx2.of e)).trans ((Sx2.ofX sZ).trans (Sx2.of e5))) (hdZ.same e5) (by rw [e5 _ _ (sZ _ _ bi.fd (e _ _ f2)), List.append_nil])
    all_goals
      clear c5 c
      have e : Same H1 H1 := Same.refl _
      try rw [if_pos rfl]
      k_updF
      refine ⟨Nat.le_of_ble_eq_true rfl, fun q1 hq1 => ?_⟩
      generalize hG1 : upd _ q1 _ = G1
      have a1 := hG1 ▸ WP.same_new hq1
      have o1 := OtA.mk (K := K) (kd := [115, 116, 111, 112]) (ss := []) (at_upd hG1) (by decide) (by decide +kernel) rfl (by decide +kernel)
      replace e := e.trans a1
      clear a1 hq1
      k_updF
      refine ⟨Nat.le_of_ble_eq_true rfl, fun q2 hq2 => ?_⟩
      generalize hG2 : upd _ q2 _ = G2
      have a2 := hG2 ▸ WP.same_new hq2
      replace o1 := o1.keep a2
      have o2 := OtA.mk (K := K) (kd := [119, 114, 105, 116, 101]) (ss := [[110, 97, 109, 101]]) (at_upd hG2) (by decide) (by decide +kernel) rfl (by decide +kernel)
      replace e := e.trans a2
      clear a2 hq2
      k_updF
      refine ⟨Nat.le_of_ble_eq_true rfl, fun q3 hq3 => ?_⟩
      generalize hG3 : upd _ q3 _ = G3
      have a3 := hG3 ▸ WP.same_new hq3
      replace o1 := o1.keep a3
      replace o2 := o2.keep a3
      replace e := e.trans a3
      clear a3 hq3
      clear hG3
      k_updF
      refine ⟨Nat.le_of_ble_eq_true rfl, fun q4 hq4 => ?_⟩
      generalize hG4 : upd _ q4 _ = G4
      have a4 := hG4 ▸ WP.same_new hq4
      replace o1 := o1.keep a4
      replace o2 := o2.keep a4
      replace e := e.trans a4
      clear a4 hq4
      clear hG4
      k_updF
      refine ⟨Nat.le_of_ble_eq_true rfl, fun q5 hq5 => ?_⟩
      generalize hG5 : upd _ q5 _ = G5
      have a5 := hG5 ▸ WP.same_new hq5
      replace o1 := o1.keep a5
      replace o2 := o2.keep a5
      have o5 := OtA.mk (K := K) (kd := [99, 108, 101, 97, 114]) (ss := [[114, 101, 102, 101, 114, 101, 110, 99, 101]]) (at_upd hG5) (by decide) (by decide +kernel) rfl (by decide +kernel)
      replace e := e.trans a5
      clear a5 hq5
      k_updF
      refine ⟨Nat.le_of_ble_eq_true rfl, fun q6 hq6 => ?_⟩
      generalize hG6 : upd _ q6 _ = G6
      have a6 := hG6 ▸ WP.same_new hq6
      replace o1 := o1.keep a6
      replace o2 := o2.keep a6
      replace o5 := o5.keep a6
      replace e := e.trans a6
      clear a6 hq6
      clear hG6
      k_updF
      refine ⟨Nat.le_of_ble_eq_true rfl, fun q7 hq7 => ?_⟩
      generalize hG7 : upd _ q7 _ = G7
      have a7 := hG7 ▸ WP.same_new hq7
      replace o1 := o1.keep a7
      replace o2 := o2.keep a7
      replace o5 := o5.keep a7
      replace e := e.trans a7
      clear a7 hq7
      clear hG7
      k_updF
      refine ⟨Nat.le_of_ble_eq_true rfl, fun q8 hq8 => ?_⟩
      generalize hG8 : upd _ q8 _ = G8
      have a8 := hG8 ▸ WP.same_new hq8
      replace o1 := o1.keep a8
      replace o2 := o2.keep a8
      replace o5 := o5.keep a8
      have o8 := OtA.mk (K := K) (kd := [115, 104, 111, 119]) (ss := [[115, 111, 117, 114, 99, 101, 115]]) (at_upd hG8) (by decide) (by decide +kernel) rfl (by decide +kernel)
      replace e := e.trans a8
      clear a8 hq8
      k_updF
      refine ⟨Nat.le_of_ble_eq_true rfl, fun q9 hq9 => ?_⟩
      generalize hG9 : upd _ q9 _ = G9
      have a9 := hG9 ▸ WP.same_new hq9
      replace o1 := o1.keep a9
      replace o2 := o2.keep a9
      replace o5 := o5.keep a9
      replace o8 := o8.keep a9
      have o9 := OtA.mk (K := K) (kd := [115, 111, 114, 116]) (ss := [[110, 97, 109, 101], [110, 97, 109, 101], [116, 114, 117, 116, 104]]) (at_upd hG9) (by decide) (by decide +kernel) rfl (by decide +kernel)
      replace e := e.trans a9
      clear a9 hq9
      k_updF
      refine ⟨Nat.le_of_ble_eq_true rfl, fun L hL => ?_⟩
      generalize hGL : upd _ L _ = GL
      have aL := hGL ▸ WP.same_new hL
      have gL := at_upd hGL
      replace o1 := o1.keep aL
      replace o2 := o2.keep aL
      replace o5 := o5.keep aL
      replace o8 := o8.keep aL
      replace o9 := o9.keep aL
      replace e := e.trans aL
      clear aL hL hGL
      k_updF
      refine ⟨Nat.le_of_ble_eq_true rfl, fun q11 hq11 => ?_⟩
      generalize hG11 : upd _ q11 _ = G11
      have a11 := hG11 ▸ WP.same_new hq11
      replace o1 := o1.keep a11
      replace o2 := o2.keep a11
      replace o5 := o5.keep a11
      replace o8 := o8.keep a11
      replace o9 := o9.keep a11
      replace gL := a11 _ _ gL
      replace e := e.trans a11
      clear a11 hq11 hG11
      k_updF
      refine ⟨Nat.le_of_ble_eq_true rfl, fun q12 hq12 => ?_⟩
      generalize hG12 : upd _ q12 _ = G12
      have a12 := hG12 ▸ WP.same_new hq12
      replace o1 := o1.keep a12
      replace o2 := o2.keep a12
      replace o5 := o5.keep a12
      replace o8 := o8.keep a12
      replace o9 := o9.keep a12
      replace gL := a12 _ _ gL
      replace e := e.trans a12
      clear a12 hq12 hG12
      k_updF
      refine ⟨Nat.le_of_ble_eq_true rfl, fun q13 hq13 => ?_⟩
      generalize hG13 : upd _ q13 _ = G13
      have a13 := hG13 ▸ WP.same_new hq13
      replace o1 := o1.keep a13
      replace o2 := o2.keep a13
      replace o5 := o5.keep a13
      replace o8 := o8.keep a13
      replace o9 := o9.keep a13
      replace gL := a13 _ _ gL
      replace e := e.trans a13
      clear a13 hq13 hG13
      k_updF
      refine ⟨Nat.le_of_ble_eq_true rfl, fun q14 hq14 => ?_⟩
      generalize hG14 : upd _ q14 _ = G14
      have a14 := hG14 ▸ WP.same_new hq14
      replace o1 := o1.keep a14
      replace o2 := o2.keep a14
      replace o5 := o5.keep a14
      replace o8 := o8.keep a14
      replace o9 := o9.keep a14
      replace gL := a14 _ _ gL
      replace e := e.trans a14
      clear a14 hq14 hG14
      k_updF
      refine ⟨Nat.le_of_ble_eq_true rfl, fun q15 hq15 => ?_⟩
      generalize hG15 : upd _ q15 _ = G15
      have a15 := hG15 ▸ WP.same_new hq15
      replace o1 := o1.keep a15
      replace o2 := o2.keep a15
      replace o5 := o5.keep a15
      replace o8 := o8.keep a15
      replace o9 := o9.keep a15
      replace gL := a15 _ _ gL
      have o15 := OtA.mk (K := K) (kd := [109, 111, 118, 101]) (ss := [[115, 111, 117, 114, 99, 101], [114, 101, 102, 101, 114, 101, 110, 99, 101]]) (at_upd hG15) (by decide) (by decide +kernel) rfl (by decide +kernel)
      replace e := e.trans a15
      clear a15 hq15 hG15
      k_updF
      refine ⟨Nat.le_of_ble_eq_true rfl, fun M hM => ?_⟩
      generalize hGM : upd _ M _ = GM
      have aM := hGM ▸ WP.same_new hM
      have gM := at_upd hGM
      replace gL := aM _ _ gL
      replace o1 := o1.keep aM
      replace o2 := o2.keep aM
      replace o5 := o5.keep aM
      replace o8 := o8.keep aM
      replace o9 := o9.keep aM
      replace o15 := o15.keep aM
      replace e := e.trans aM
      clear aM hM hGM
      k_updF
      refine WP.catLL gL gM (by show 5 + 1 ≤ 1000000; decide) (fun O hO => ?_)
      generalize hGO : upd GM O _ = GO
      have aO : Same GM GO := hGO ▸ WP.same_new hO
      have gO := at_upd hGO
      have neO := ((hd1.same e).new hO).1
      replace o1 := o1.keep aO
      replace o2 := o2.keep aO
      replace o5 := o5.keep aO
      replace o8 := o8.keep aO
      replace o9 := o9.keep aO
      replace o15 := o15.keep aO
      replace e := e.trans aO
      clear aO hO gL gM hGO
      have hd2 := hd1.same e
      k_updF
      refine ⟨d, ns, _, rfl, by decide, WP.bt8 (by decide), hd2, fun z HZ z0 z1 sZ hdZ => ?_⟩
      have nO := hd2.lst
      obtain ⟨xd, hxd⟩ := nO
      have gZ := sZ _ _ neO gO
      have kpZ : ∀ b us, SqT K GO b us → SqT K HZ b us := fun b us h => WP.sqtX sZ hxd h
      have all : ∀ (i : Nat) u, [V.ref q1, V.ref q2, V.ref q5, V.ref q8, V.ref q9, V.ref q15][i]? = some u → OtA K HZ u := by
        intro i u hu
        match i, hu with
        | 0, hu => cases hu; exact o1.kp kpZ
        | 1, hu => cases hu; exact o2.kp kpZ
        | 2, hu => cases hu; exact o5.kp kpZ
        | 3, hu => cases hu; exact o8.kp kpZ
        | 4, hu => cases hu; exact o9.kp kpZ
        | 5, hu => cases hu; exact o15.kp kpZ
      obtain ⟨zn, rfl⟩ : ∃ n : Nat, z = n := ⟨z.toNat, by omega⟩
      have hzn : zn < [V.ref q1, V.ref q2, V.ref q5, V.ref q8, V.ref q9, V.ref q15].length := by show zn < 6; omega
      refine WP.ixL (SqL.of gZ) (atI_nat (List.getElem?_eq_getElem hzn)) ?_
      have sA : Sx2 d fp H HZ := ((Sx2.ofX s1).trans (Sx2.of e)).trans (Sx2.ofX sZ)
      exact k _ [] [] HZ (all zn _ (List.getElem?_eq_getElem hzn)).st (Nat.zero_le _) MSt.PrA.nil MSt.IxP.nil sA hdZ (by rw [List.append_nil]; exact sZ _ _ bi.fd (e _ _ b1.hf))
end
abbrev s__law_block : Stmt := top 15
abbrev N__law_block : List Str := ["draws", "names", "found", "levels", "least", "statements", "k"]
theorem sc__law_block : FnScope N__law_block ["draws", "names", "found", "levels", "least"] (defScope s__law_block) := ⟨rfl, rfl, rfl, by decide +kernel, rfl, by decide +kernel, by decide +kernel⟩
section
variable {P : Program} {w : World} {K : PySem.W.Frag} {mg : Str → Option Value} {base : Heap}
theorem ok__law_block {f : Addr} {fd : FuncData} (F : Fun K "_law_block" "_law_block" s__law_block f fd) (B : Blt w K mg) (c__law_draw : WP.Callee P w K mg base CX0 1 "_law_draw" ["draws", "limit"] (sp__law_draw K mg)) {nn : Nat} (c__law_statement : WP.Callee P w K mg base CX0 (2 + 2 * nn + 3) "_law_statement" ["draws", "names", "found", "levels"] (sp__law_statement K mg (nn + 1))) : FnOk P w K mg base CX0 (2 + 2 * nn + 4) f fd ["draws", "names", "found", "levels", "least"] (sp__law_block K mg (nn + 1)) := by
  refine F.ok sc__law_block (fun vs H Q E h => ?_) (fun cdv A outer s H vs Q E hr h => ?_)
  · first | (obtain ⟨_, rfl, _⟩ := h; rfl) | (obtain ⟨_, _, rfl, _⟩ := h; rfl) | (obtain ⟨_, _, _, rfl, _⟩ := h; rfl) | (obtain ⟨_, _, _, _, rfl, _⟩ := h; rfl) | (obtain ⟨_, _, _, _, _, rfl, _⟩ := h; rfl) | (obtain ⟨_, _, _, _, _, _, rfl, _⟩ := h; rfl) | (obtain ⟨_, _, _, _, _, _, _, rfl, _⟩ := h; rfl) | (obtain ⟨_, _, _, _, _, _, _, _, rfl, _⟩ := h; rfl) | (obtain ⟨rfl, _⟩ := h; rfl)
  · obtain ⟨d, np, fp, ns, ws, fs, least, rfl, hl0, hl1, bi, hz, k⟩ := h
    refine ⟨_, (pss_cons (ps_set (i := 5) sc__law_block.nd rfl (Or.inl rfl) (pe_lst pa_nil))
      (pss_cons (ps_for PassesOwn.never rfl (pi_range1 rfl B.b_range (WP.pa_consN (pe_callB (WP.c_max2 rfl) (by rfl) B.b_max (by decide +kernel) (WP.pa_consN (pv 4) (WP.pa_consN (pe_op op_sub (WP.pe_callC (hl := by omega) c__law_draw hr rfl pass0 (WP.pa_consN (pv 0) (WP.pa_consN pe_int pa_nil))) pe_int) pa_nil))) pa_nil)) (pg_name (i := 6) sc__law_block.nd rfl (Or.inl rfl)) (pss_one (ps_expr (pe_bm PySem.F.plainAttrs_list PySem.F.slot_list_append PySem.F.type_list_append mt_append (pv 5) (WP.pa_consN (WP.pe_callC (hl := by omega) c__law_statement hr rfl pass0 (WP.pa_consN (pv 0) (WP.pa_consN (pv 1) (WP.pa_consN (pv 2) (WP.pa_consN (pv 3) pa_nil))))) pa_nil)))))
      (pss_one (ps_ret (pe_callTy WP.c_tupOf (by rfl) B.b_tuple (by decide +kernel) (WP.pa_consN (pv 5) pa_nil)))))), ?_⟩
    k_updF
    refine ⟨Nat.zero_le _, fun S hS => ?_⟩
    have e1 : Same H (upd H S (.lst [])) := WP.same_new hS
    have s1 : (upd H S (.lst [])) S = some (.lst []) := upd_same
    generalize upd H S _ = H1 at e1 s1 ⊢
    have b1 := bi.same e1
    k_updF
    refine ⟨d, ns, _, rfl, by decide, WP.bt8 (by decide), b1.ds, fun v H2 v0 v1 s2 hd2 => ?_⟩
    have b2 := b1.sx s2 hd2
    have nS := bi.ds.new hS
    have nSf : S ≠ fp := Ne.symm (ne_of_none bi.hf hS)
    have g2 := s2 _ _ nS.1 s1
    k_updF
    refine WP.maxI ?_
    k_updF
    have hm : 0 ≤ max least (v - 1) ∧ max least (v - 1) ≤ 2 := by omega
    generalize max least (v - 1) = mx at hm
    refine ⟨_, rfl, by omega, by omega, for_range (lo := 0) (n := _) (fun i σ' H' => ∃ (z6 : Option V) (us : List V) (ps : List MSt.PP) (rs : List V), σ' = [some (.ref d), some (.ref np), some (.ref fp), some (.int ((nn + 1 : Nat) : Int)), some (.int least), some (.ref S), z6] ∧ Sx2 d fp H H' ∧ DS K H' d ns ∧ H' fp = some (.lst (fs ++ rs)) ∧ H' S = some (.lst us) ∧ us.length = i ∧
      MSt.Cat (MSt.StA K H' INN TAB (nn + 1)) us ps ∧ ps.length ≤ i * 4 ^ nn ∧ MSt.PrA K H' rs ps ∧ MSt.IxP ws ps) ⟨_, [], [], [], rfl, Sx2.ofX ((WP.Sx.of e1).trans s2), hd2, by rw [List.append_nil]; exact b2.hf, g2, rfl, MSt.Cat.nil, by simp, MSt.PrA.nil, MSt.IxP.nil⟩ ?_ ?_⟩
    · clear e1 s1 b1 s2 hd2 b2 g2
      rintro i σ' H3 hi ⟨z6, us, ps, rs, rfl, s3, hd3, f3, g3, lu, hc, hl, hpr, hix⟩
      have hi2 : i = 0 ∨ i = 1 := by omega
      have b3 := bi.go s3 hd3 f3
      have prl := hpr.1
      have pos : 0 < 4 ^ nn := Nat.pow_pos (by decide)
      k_updF
      refine WP.tyL (SqL.of g3) ?_
      k_updF
      refine ⟨d, np, fp, ns, ws, fs ++ rs, rfl, b3, by rw [List.length_append, prl]; rcases hi2 with rfl | rfl <;> omega, fun x qs rt H4 hst hql hqr hqx s4 hd4 f4 => ?_⟩
      have g4 := s4 _ _ nS.1 nSf g3
      have kp4 := b3.kp s4
      have kp5 : ∀ b us', SqT K H4 b us' → SqT K (upd H4 S (.lst (us ++ [x]))) b us' := fun b us' z => WP.sqtX (d := S) WP.Sx.upd g4 z
      k_updF
      refine WP.appL g4 (by rw [sizeLine_eq]; omega) ?_
      refine ⟨_, us ++ [x], ps ++ qs, rs ++ rt, rfl, (s3.trans s4).mut hS, hd4.mut nS, by rw [upd_ne (Ne.symm nSf), f4, List.append_assoc], upd_same, by rw [List.length_append, lu]; rfl, ?_, ?_, ?_, hix.app hqx⟩
      · exact (hc.mono fun v q z => z.keep fun b us z => kp5 b us (kp4 b us z)).app (MSt.Cat.one (hst.keep kp5))
      · rw [List.length_append, Nat.succ_mul]; omega
      · exact (hpr.keep fun b us z => kp5 b us (kp4 b us z)).app (hqr.keep kp5)
    rintro σ' H3 ⟨z6, us, ps, rs, rfl, s3, hd3, f3, g3, lu, hc, hl, hpr, hix⟩
    k_updF
    refine WP.tupL (SqL.of g3) (fun T hT => ?_)
    k_updF
    have e4 : Same H3 (upd H3 T (.tup us)) := WP.same_new hT
    have kp : ∀ b us', SqT K H3 b us' → SqT K (upd H3 T (.tup us)) b us' := fun b us' z => WP.sqt e4 z
    refine k T us ps rs _ (SqT.of upd_same) (by omega) (hc.mono fun v q z => z.keep kp) ?_ (hpr.keep kp) hix (s3.trans (Sx2.of e4)) (hd3.same e4) (e4 _ _ f3)
    refine Nat.le_trans hl (Nat.mul_le_mul_right _ (by omega))
end
abbrev s_law : Stmt := top 17
abbrev N_law : List Str := ["script", "draws", "count", "names", "paragraphs", "due", "k", "found", "j", "statements", "pairs", "places", "first", "last"]
theorem sc_law : FnScope N_law ["script"] (defScope s_law) := ⟨rfl, rfl, rfl, by decide +kernel, rfl, by decide +kernel, by decide +kernel⟩
theorem eqv_pairs {K : PySem.W.Frag} {H : Hp} {p q : Addr} {xs ys : List V} {ps : List MSt.PP} (hp : SqT K H p xs) (hq : SqT K H q ys) (a : MSt.PrA K H xs ps) (b : MSt.PrA K H ys ps) (hl : ps.length ≤ 1000) (ok : ∀ r ∈ ps, WP.SOk (SX.S r.1) ∧ WP.SOk (SX.S r.2)) : EqV K H 2 (.ref p) (.ref q) :=
  .tup hp hq (a.1.trans b.1.symm) (by rw [b.1]; exact hl) fun i x y hx hy => by
    have h := (List.getElem?_eq_some_iff.mp hx).1
    have er := List.getElem?_eq_getElem (l := ps) (i := i) (by rw [← a.1]; exact h)
    obtain ⟨t, rfl, ht⟩ := a.2 i x _ hx er
    obtain ⟨u, rfl, hu⟩ := b.2 i y _ hy er
    obtain ⟨o1, o2⟩ := ok _ (List.mem_of_getElem? er)
    exact .tup ht hu rfl (show 2 ≤ 1000 by decide) (pw_cons (.str _ o1) (pw_cons (.str _ o2) pw_nil))
theorem pw_map {K : PySem.W.Frag} {H : Hp} {d : Nat} : ∀ {l : List Nat} (i : Nat) x y, (WP.iL l)[i]? = some x → (WP.iL l)[i]? = some y → EqV K H d x y := fun {l} i x y hx hy => by
  rw [hx] at hy
  cases hy
  rw [List.getElem?_map] at hx
  cases e : l[i]? with
  | none => rw [e] at hx; cases hx
  | some n => rw [e] at hx; cases hx; exact .int _
theorem eqv_rows {K : PySem.W.Frag} {H : Hp} {p q : Addr} {xs ys : List V} {rs : List (List Nat)} (hp : SqT K H p xs) (hq : SqT K H q ys) (a : MSt.GrR K H xs rs) (b : MSt.GrR K H ys rs) (hl : rs.length ≤ 1000) (ok : ∀ r ∈ rs, r.length ≤ 1000) : EqV K H 2 (.ref p) (.ref q) :=
  .tup hp hq (a.1.trans b.1.symm) (by rw [b.1]; exact hl) fun i x y hx hy => by
    have h := (List.getElem?_eq_some_iff.mp hx).1
    have er := List.getElem?_eq_getElem (l := rs) (i := i) (by rw [← a.1]; exact h)
    obtain ⟨t, rfl, ht⟩ := a.2 i x _ hx er
    obtain ⟨u, rfl, hu⟩ := b.2 i y _ hy er
    exact .tup ht hu rfl (by rw [List.length_map]; exact ok _ (List.mem_of_getElem? er)) pw_map
theorem ix_of {ws : List (List Nat)} : ∀ {ps : List MSt.PP}, MSt.IxP ws ps → ∃ ix : List (Nat × Nat), ps = ix.map (MSt.pr ws) ∧ ∀ q ∈ ix, q.1 ≤ q.2 ∧ q.2 < ws.length
  | [], _ => ⟨[], rfl, fun _ h => (List.not_mem_nil h).elim⟩
  | p :: ps, h => by
    obtain ⟨ix, rfl, h2⟩ := ix_of (ps := ps) fun q hq => h q (List.mem_cons_of_mem _ hq)
    obtain ⟨i, j, hij, hi, hj⟩ := h p List.mem_cons_self
    have lj := (List.getElem?_eq_some_iff.mp hj).1
    refine ⟨(i, j) :: ix, ?_, fun q hq => ?_⟩
    · rw [List.map_cons]
      congr 1
      show p = (ws.getD i [], ws.getD j [])
      rw [List.getD_eq_getElem?_getD, hi, List.getD_eq_getElem?_getD, hj]; rfl
    · rcases List.mem_cons.mp hq with e | e
      · rw [e]; exact ⟨hij, lj⟩
      · exact h2 q e
/-- the place of a name -/
theorem indexT {K : PySem.W.Frag} {H : Hp} {p : Addr} {ws : List (List Nat)} {w : List Nat} {j : Nat} {Q : VK} (h : H p = some (.lst (tL ws))) (nd : ws.Nodup) (hj : ws[j]? = some w) (q : Q (.int (j : Int)) H) : rIndex K (.ref p) [.str (SX.S w)] H Q := by
  refine ⟨p, tL ws, _, j, .str (SX.S w), rfl, rfl, SqL.of h, rfl, flat_T ws, by show (ws.map _)[j]? = _; rw [List.getElem?_map, hj]; rfl, ?_, fun m z' hm hz => ?_, q⟩
  · show (SX.S w == SX.S w) = true; exact beq_self_eq_true _
  · have hz : (ws.map fun w => V.str (SX.S w))[m]? = some z' := hz
    rw [List.getElem?_map] at hz
    cases e : ws[m]? with
    | none => rw [e] at hz; cases hz
    | some u =>
      rw [e] at hz
      cases hz
      show (SX.S u == SX.S w) = false
      rw [S_beq]
      refine decide_eq_false fun z => ?_
      subst z
      obtain ⟨h1, h2⟩ := List.getElem?_eq_some_iff.mp e
      obtain ⟨h3, h4⟩ := List.getElem?_eq_some_iff.mp hj
      have := (List.getElem_inj (h₀ := h1) (h₁ := h3) nd).mp (h2.trans h4.symm)
      omega
def sat (j : Nat) (q : Nat × Nat) : Bool := decide (q.1 ≤ j) && decide (j ≤ q.2)
theorem any_cnt {α : Type} (f : α → Bool) : ∀ (l : List α), l.any f = decide (0 < l.countP f)
  | [] => rfl
  | x :: l => by
    rw [List.any_cons, List.countP_cons, any_cnt f l]
    cases f x <;> simp
/-- what is kept of the paragraphs so far -/
structure PL (K : PySem.W.Frag) (H : Hp) (ws : List (List Nat)) (k : Nat) (xs ys : List V) (ixs : List (List (Nat × Nat))) : Prop where
  lx : xs.length = k
  li : ixs.length = k
  p : ∀ (i : Nat) x w ix, xs[i]? = some x → ws[i]? = some w → ixs[i]? = some ix → ∃ a b us, x = .ref a ∧ SqT K H a [.str (SX.S w), .ref b] ∧ SqT K H b us ∧ MSt.Cat (MSt.StA K H INN TAB 4) us (ix.map (MSt.pr ws))
  g : MSt.GrR K H ys (ixs.map (MSt.row ws.length))
  q : ∀ ix ∈ ixs, ix.length ≤ 1000 ∧ ∀ q ∈ ix, q.1 ≤ q.2 ∧ q.2 < ws.length
theorem PL.keep {K : PySem.W.Frag} {H H' : Hp} {ws : List (List Nat)} {k : Nat} {xs ys : List V} {ixs : List (List (Nat × Nat))} (h : PL K H ws k xs ys ixs) (e : ∀ b us, SqT K H b us → SqT K H' b us) : PL K H' ws k xs ys ixs :=
  ⟨h.lx, h.li, fun i x w ix h1 h2 h3 => by
    obtain ⟨a, b, us, r, h4, h5, h6⟩ := h.p i x w ix h1 h2 h3
    exact ⟨a, b, us, r, e _ _ h4, e _ _ h5, cat_keep e h6⟩, h.g.keep e, h.q⟩
theorem PL.snoc {K : PySem.W.Frag} {H : Hp} {ws : List (List Nat)} {k : Nat} {xs ys us : List V} {ixs : List (List (Nat × Nat))} {ix : List (Nat × Nat)} {w : List Nat} {a b t : Addr} (h : PL K H ws k xs ys ixs) (hw : ws[k]? = some w) (ha : SqT K H a [.str (SX.S w), .ref b]) (hb : SqT K H b us) (hc : MSt.Cat (MSt.StA K H INN TAB 4) us (ix.map (MSt.pr ws)))
    (ht : SqT K H t (WP.iL (MSt.row ws.length ix))) (hq : ix.length ≤ 1000 ∧ ∀ q ∈ ix, q.1 ≤ q.2 ∧ q.2 < ws.length) : PL K H ws (k + 1) (xs ++ [.ref a]) (ys ++ [.ref t]) (ixs ++ [ix]) := by
  refine ⟨by rw [List.length_append, h.lx]; rfl, by rw [List.length_append, h.li]; rfl, fun i x w' ix' h1 h2 h3 => ?_, by rw [List.map_append]; exact h.g.snoc ht, fun i hi => ?_⟩
  · have l := h.lx
    have l2 := h.li
    rcases Nat.lt_or_ge i k with z | z
    · rw [List.getElem?_append_left (by omega)] at h1 h3
      exact h.p i x w' ix' h1 h2 h3
    · rw [List.getElem?_append_right (by omega)] at h1 h3
      rw [l] at h1
      rw [l2] at h3
      cases e : i - k with
      | zero =>
        rw [e] at h1 h3
        cases h1; cases h3
        rw [show i = k by omega, hw] at h2
        cases h2
        exact ⟨a, b, us, rfl, ha, hb, hc⟩
      | succ n => rw [e] at h1; simp at h1
  · rcases List.mem_append.mp hi with z | z
    · exact h.q i z
    · rw [List.mem_singleton.mp z]; exact hq
def sp_law (K : PySem.W.Frag) : Sp := fun vs H Q _ => ∃ (a : Addr) (ns : List Int), vs = [.ref a] ∧ SqL K H a (ns.map V.int) ∧ ns.length ≤ 63 ∧ ∀ H', Q (.bl true) H'
section
variable {P : Program} {w : World} {K : PySem.W.Frag} {mg : Str → Option Value} {base : Heap}
theorem ok_law {f : Addr} {fd : FuncData} (F : Fun K "law" "law" s_law f fd) (B : Blt w K mg) (c__law_draws : WP.Callee P w K mg base CX0 1 "_law_draws" ["script"] (sp__law_draws K mg)) (c__law_names : WP.Callee P w K mg base CX0 3 "_law_names" ["draws", "count"] (sp__law_names K mg)) (c__law_same : WP.Callee P w K mg base CX0 3 "_law_same" ["actual", "expected"] (sp__law_same K mg 3)) (c__law_draw : WP.Callee P w K mg base CX0 1 "_law_draw" ["draws", "limit"] (sp__law_draw K mg)) (c_performed : WP.Callee P w K mg base CX0 6 "performed" ["statements"] (sp_performed K mg 5)) (c_graph_of : WP.Callee P w K mg base CX0 7 "graph_of" ["paragraphs"] (sp_graph_of K mg)) (c__law_statement : WP.Callee P w K mg base CX0 11 "_law_statement" ["draws", "names", "found", "levels"] (sp__law_statement K mg 4)) : FnOk P w K mg base CX0 12 f fd ["script"] (sp_law K) := by
  refine F.ok sc_law (fun vs H Q E h => ?_) (fun cdv A outer s H vs Q E hr h => ?_)
  · first | (obtain ⟨_, rfl, _⟩ := h; rfl) | (obtain ⟨_, _, rfl, _⟩ := h; rfl) | (obtain ⟨_, _, _, rfl, _⟩ := h; rfl) | (obtain ⟨_, _, _, _, rfl, _⟩ := h; rfl) | (obtain ⟨_, _, _, _, _, rfl, _⟩ := h; rfl) | (obtain ⟨_, _, _, _, _, _, rfl, _⟩ := h; rfl) | (obtain ⟨_, _, _, _, _, _, _, rfl, _⟩ := h; rfl) | (obtain ⟨_, _, _, _, _, _, _, _, rfl, _⟩ := h; rfl) | (obtain ⟨rfl, _⟩ := h; rfl)
  · obtain ⟨a, ns, rfl, ha, hl, k⟩ := h
    refine ⟨_, (pss_cons (ps_set (i := 1) sc_law.nd rfl (Or.inr rfl) (WP.pe_callC c__law_draws hr rfl pass0 (WP.pa_consN (pv 0) pa_nil)))
      (pss_cons (ps_set (i := 2) sc_law.nd rfl (Or.inl rfl) (pe_op op_add pe_int (WP.pe_callC c__law_draw hr rfl pass0 (WP.pa_consN (pv 1) (WP.pa_consN (pe_ix ix_list (pe_lst (WP.pa_consN pe_int (WP.pa_consN pe_int pa_nil))) (pe_callTy WP.c_int1 (by rfl) B.b_int (by decide +kernel) (WP.pa_consN (pe_cmpR op_eq (WP.pe_callC c__law_draw hr rfl pass0 (WP.pa_consN (pv 1) (WP.pa_consN pe_int pa_nil))) pe_int (nomark _)) pa_nil)) (fun _ _ => rfl)) pa_nil)))))
      (pss_cons (ps_set (i := 3) sc_law.nd rfl (Or.inr rfl) (WP.pe_callC c__law_names hr rfl pass0 (WP.pa_consN (pv 1) (WP.pa_consN (pv 2) pa_nil))))
      (pss_cons (ps_set (i := 4) sc_law.nd rfl (Or.inl rfl) (pe_lst pa_nil))
      (pss_cons (ps_set (i := 5) sc_law.nd rfl (Or.inl rfl) (pe_lst pa_nil))
      (pss_cons (ps_for PassesOwn.never rfl (pi_range1 rfl B.b_range (WP.pa_consN (pv 2) pa_nil)) (pg_name (i := 6) sc_law.nd rfl (Or.inl rfl)) (pss_cons (ps_set (i := 7) sc_law.nd rfl (Or.inr rfl) (pe_lst pa_nil))
      (pss_cons (ps_set (i := 9) sc_law.nd rfl (Or.inl rfl) (pe_callTy WP.c_tupOf (by rfl) B.b_tuple (by decide +kernel) (WP.pa_consN (pe_lc (own := [("j", 8)]) (g := gName 8) (tt := tYes) rfl sc_law.nd (pi_range1 rfl B.b_range (WP.pa_consN (WP.pe_callC c__law_draw hr rfl pass0 (WP.pa_consN (pv 1) (WP.pa_consN pe_int pa_nil))) pa_nil)) (blkOk_by (own := [("j", 8)]) (N := N_law) (sc := defScope s_law) (by decide +kernel)) (fun _ _ _ _ _ => pg_name (i := 8) sc_law.nd rfl (Or.inl rfl)) (fun _ _ _ _ _ => pts_nil) (fun _ _ _ _ _ => (WP.pe_callC c__law_statement hr rfl pass0 (WP.pa_consN (pv 1) (WP.pa_consN (pv 3) (WP.pa_consN (pv 7) (WP.pa_consN pe_int pa_nil))))))) pa_nil)))
      (pss_cons (ps_expr (pe_bm PySem.F.plainAttrs_list PySem.F.slot_list_append PySem.F.type_list_append mt_append (pv 4) (WP.pa_consN (pe_tup (WP.pa_consN (pe_ix ix_list (pv 3) (pv 6) (fun _ _ => rfl)) (WP.pa_consN (pv 9) pa_nil))) pa_nil)))
      (pss_cons (ps_set (i := 10) sc_law.nd rfl (Or.inl rfl) (WP.pe_callC c_performed hr rfl pass0 (WP.pa_consN (pv 9) pa_nil)))
      (pss_cons (ps_if (PW.pt (pw_or (pt_not (pt_val (pe_callB call_isi (by rfl) B.b_isinstance (by decide +kernel) (pa_cons (pv 10) (pa_cons (pe_bltn (v := .ty "list") rfl B.b_list (by decide +kernel) rfl) pa_nil))))) (pw_or1 (pt_not (pt_val (WP.pe_callC c__law_same hr rfl pass0 (WP.pa_consN (pe_callTy WP.c_tupOf (by rfl) B.b_tuple (by decide +kernel) (WP.pa_consN (pv 10) pa_nil)) (WP.pa_consN (pe_callTy WP.c_tupOf (by rfl) B.b_tuple (by decide +kernel) (WP.pa_consN (pv 7) pa_nil)) pa_nil)))))))) (pss_one (ps_ret pe_bl)) pss_nil)
      (pss_cons (ps_set (i := 11) sc_law.nd rfl (Or.inl rfl) (pe_lst pa_nil))
      (pss_cons (ps_for PassesOwn.never rfl (pi_range1 rfl B.b_range (WP.pa_consN (pv 2) pa_nil)) (pg_name (i := 8) sc_law.nd rfl (Or.inr rfl)) (pss_one (ps_if (pt_cmpR op_gt (pe_callB WP.c_len (by rfl) B.b_len (by decide +kernel) (WP.pa_consN (pe_lc (own := [("first", 12), ("last", 13)]) (g := gTup K 2 (gCons (gName 12) (gCons (gName 13) gNil))) rfl sc_law.nd (pi_list (pv 7)) (blkOk_by (own := [("first", 12), ("last", 13)]) (N := N_law) (sc := defScope s_law) (by decide +kernel)) (fun _ _ _ _ _ => pg_tup (by rfl) (pgs_cons (pg_name (i := 12) sc_law.nd rfl (Or.inl rfl)) (pgs_cons (pg_name (i := 13) sc_law.nd rfl (Or.inl rfl)) pgs_nil))) (fun _ _ _ _ _ => (pts_one (PW.pt (pw_and (pt_cmpR op_le (WP.pe_bmK (K := K) rfl PySem.F.plainAttrs_list PySem.F.slot_list_index PySem.F.type_list_index (WP.mt_indexK (K := K) rfl) (pv 3) (WP.pa_consN (pv 12) pa_nil)) (pv 8) (nomark _)) (pw_and1 (pt_cmpR op_le (pv 8) (WP.pe_bmK (K := K) rfl PySem.F.plainAttrs_list PySem.F.slot_list_index PySem.F.type_list_index (WP.mt_indexK (K := K) rfl) (pv 3) (WP.pa_consN (pv 13) pa_nil)) (nomark _))))))) (fun _ _ _ _ _ => pe_int)) pa_nil)) pe_int (nomark _)) (pss_one (ps_expr (pe_bm PySem.F.plainAttrs_list PySem.F.slot_list_append PySem.F.type_list_append mt_append (pv 11) (WP.pa_consN (pv 8) pa_nil)))) pss_nil)))
      (pss_one (ps_expr (pe_bm PySem.F.plainAttrs_list PySem.F.slot_list_append PySem.F.type_list_append mt_append (pv 5) (WP.pa_consN (pe_callTy WP.c_tupOf (by rfl) B.b_tuple (by decide +kernel) (WP.pa_consN (pv 11) pa_nil)) pa_nil))))))))))))
      (pss_one (ps_ret (WP.pe_callC c__law_same hr rfl pass0 (WP.pa_consN (WP.pe_callC c_graph_of hr rfl pass0 (WP.pa_consN (pe_callTy WP.c_tupOf (by rfl) B.b_tuple (by decide +kernel) (WP.pa_consN (pv 4) pa_nil)) pa_nil)) (WP.pa_consN (pe_callTy WP.c_tupOf (by rfl) B.b_tuple (by decide +kernel) (WP.pa_consN (pv 5) pa_nil)) pa_nil))))))))))), ?_⟩
    k_updF
    refine ⟨a, ns, rfl, ha, fun d z H1 _ _ _ e1 hd => ?_⟩
    k_updF
    refine ⟨Nat.le_of_ble_eq_true rfl, fun L hL => ?_⟩
    obtain ⟨hd2, nL, s2, gL⟩ := hd.alloc (o := .lst [.int 9, .int 40]) hL
    generalize upd H1 L _ = H2 at hd2 s2 gL ⊢
    clear hd hL s2
    k_updF
    refine ⟨d, z, _, rfl, by decide, WP.bt8 (by decide), hd2, fun v H3 v0 v1 s3 hd3 => ?_⟩
    k_updF
    refine WP.intB ?_
    have gL := s3 _ _ nL gL
    obtain ⟨lm, hlm, alm⟩ : ∃ m : Int, (m = 9 ∨ m = 40) ∧ atI [V.int 9, V.int 40] (if decide (v = 0) = true then 1 else 0) = some (.int m) := by
      by_cases q : v = 0
      · rw [if_pos (decide_eq_true q)]; exact ⟨40, .inr rfl, rfl⟩
      · rw [if_neg (by rw [decide_eq_false q]; exact Bool.false_ne_true)]; exact ⟨9, .inl rfl, rfl⟩
    refine WP.ixL (SqL.of gL) alm ?_
    k_updF
    refine ⟨d, z, _, rfl, by omega, WP.bt8 (by omega), hd3, fun c H4 c0 c1 s4 hd4 => ?_⟩
    clear gL alm nL hd3 hd2 s3 s4
    obtain ⟨n, hn, n40⟩ : ∃ n : Nat, 1 + c = (n : Int) ∧ n ≤ 40 ∧ 1 ≤ n := ⟨(1 + c).toNat, by omega, by omega, by omega⟩
    k_updF
    rw [hn]
    clear hn
    k_updF
    refine ⟨d, z, n, rfl, n40.1, hd4, fun np ws H5 hnp nnd s5 hd5 hn5 lws nd okw => ?_⟩
    clear hd4 s5 hnp
    k_updF
    refine ⟨Nat.zero_le _, fun PG hPG => ?_⟩
    obtain ⟨hd6, nPG, s6, gPG⟩ := hd5.alloc (o := .lst []) hPG
    have nPGz := (hd5.new hPG).2
    have nPGn := ne_of_none hn5 hPG
    have hn6 : (upd H5 PG (.lst [])) np = some (.lst (tL ws)) := by rw [upd_ne nPGn]; exact hn5
    generalize upd H5 PG _ = H6 at hd6 s6 gPG hn6 ⊢
    k_updF
    refine ⟨Nat.zero_le _, fun DU hDU => ?_⟩
    obtain ⟨hd7, nDU, s7, gDU⟩ := hd6.alloc (o := .lst []) hDU
    have nDUz := (hd6.new hDU).2
    have nDUn := ne_of_none hn6 hDU
    have nPD := ne_of_none gPG hDU
    have hn7 : (upd H6 DU (.lst [])) np = some (.lst (tL ws)) := by rw [upd_ne nDUn]; exact hn6
    have gPG7 : (upd H6 DU (.lst [])) PG = some (.lst []) := by rw [upd_ne nPD]; exact gPG
    generalize upd H6 DU _ = H7 at hd7 s7 gDU hn7 gPG7 ⊢
    clear hd5 hd6 s6 s7 hn5 hn6 gPG hPG hDU e1 ha
    k_updF
    refine ⟨_, rfl, by omega, by omega, for_range (lo := 0) (n := _) (fun i σ' H' => ∃ (z6 z7 z8 z9 z10 z11 z12 z13 : Option V) (xs ys : List V) (ixs : List (List (Nat × Nat))), σ' = [some (.ref a), some (.ref d), some (.int (n : Int)), some (.ref np), some (.ref PG), some (.ref DU), z6, z7, z8, z9, z10, z11, z12, z13] ∧
      DS K H' d z ∧ H' np = some (.lst (tL ws)) ∧ H' PG = some (.lst xs) ∧ H' DU = some (.lst ys) ∧ PL K H' ws i xs ys ixs)
      ⟨_, _, _, _, _, _, _, _, [], [], [], rfl, hd7, hn7, gPG7, gDU, rfl, rfl, fun i x w ix h => by simp at h, MSt.GrR.nil, fun _ h => (List.not_mem_nil h).elim⟩ ?_ ?_⟩
    · clear hd7 hn7 gPG7 gDU
      rintro i σ' H1 hi ⟨z6, z7, z8, z9, z10, z11, z12, z13, xs, ys, ixs, rfl, hd1, hn1, gP1, gD1, pl⟩
      rw [Int.toNat_natCast] at hi
      rw [Int.zero_add]
      k_updF
      refine ⟨Nat.zero_le _, fun F hF => ?_⟩
      obtain ⟨hd2, nF, s2, gF2⟩ := hd1.alloc (o := .lst []) hF
      have nFz := (hd1.new hF).2
      have e2 : Same H1 (upd H1 F (.lst [])) := WP.same_new hF
      generalize upd H1 F _ = H2 at hd2 s2 gF2 e2 ⊢
      have hn2 := e2 _ _ hn1
      have gP2 := e2 _ _ gP1
      have gD2 := e2 _ _ gD1
      have nPF := ne_of_none gP1 hF
      have nDF := ne_of_none gD1 hF
      have nnF := ne_of_none hn1 hF
      replace pl := pl.keep fun b us h => WP.sqt e2 h
      clear hd1 hn1 gP1 gD1 e2 s2 hF
      k_updF
      refine ⟨d, z, _, rfl, by decide, WP.bt8 (by decide), hd2, fun m H3 m0 m1 s3 hd3 => ?_⟩
      have hn3 := s3 _ _ nnd hn2
      have gP3 := s3 _ _ nPG gP2
      have gD3 := s3 _ _ nDU gD2
      have gF3 := s3 _ _ nF gF2
      obtain ⟨xd, hxd⟩ := hd2.lst
      replace pl := pl.keep fun b us h => WP.sqtX s3 hxd h
      clear hd2 hn2 gP2 gD2 gF2 s3 hxd
      obtain ⟨m, rfl⟩ : ∃ n : Nat, m = n := ⟨m.toNat, by omega⟩
      k_updF
      refine ⟨_, rfl, by omega, by omega, fun S hS => ?_⟩
      have nS := hd3.new hS
      have nSF := ne_of_none gF3 hS
      have bi3 : BI K H3 d np F z ws [] := ⟨hd3, hn3, nnd, nnF, by omega, by omega, gF3, nF, nFz⟩
      refine lc_range (lo := 0) (n := _) (fun j H' => ∃ (us : List V) (ps : List MSt.PP) (rs : List V), Sx2 d F H3 H' ∧ DS K H' d z ∧ H' F = some (.lst rs) ∧ H' S = some (.lst us) ∧ us.length = j ∧ MSt.Cat (MSt.StA K H' INN TAB 4) us ps ∧ ps.length ≤ j * 64 ∧ MSt.PrA K H' rs ps ∧ MSt.IxP ws ps)
        ⟨[], [], [], Sx2.of (WP.same_new hS), hd3.same (WP.same_new hS), by rw [upd_ne nSF]; exact gF3, upd_same, rfl, MSt.Cat.nil, Nat.zero_le _, MSt.PrA.nil, MSt.IxP.nil⟩ ?_ ?_
      · rintro j H4 hj ⟨us, ps, rs, s4, hd4, gF4, gS4, lu, hc, hpl, hpr, hix⟩
        rw [Int.toNat_natCast] at hj
        have b4 := bi3.go s4 hd4 gF4
        have prl := hpr.1
        k_updF
        refine ⟨rfl, WP.yes ?_⟩
        k_updF
        refine ⟨d, np, F, z, ws, rs, rfl, b4, by rw [prl]; show _ + 64 ≤ _; omega, fun x qs rt H5 hst hql hqr hqx s5 hd5 gF5 => ?_⟩
        have gS5 := s5 _ _ nS.1 (Ne.symm nSF) gS4
        have kp5 : ∀ b us', SqT K H5 b us' → SqT K (upd H5 S (.lst (us ++ [x]))) b us' := fun b us' z => WP.sqtX (d := S) WP.Sx.upd gS5 z
        have kp4 := b4.kp s5
        refine ⟨us, gS5, by rw [sizeLine_eq]; omega, us ++ [x], ps ++ qs, rs ++ rt, (s4.trans s5).mut hS, hd5.mut nS, by rw [upd_ne nSF]; exact gF5, upd_same, by rw [List.length_append, lu]; rfl, ?_, ?_, ?_, hix.app hqx⟩
        · exact (cat_keep (fun b us z => kp5 b us (kp4 b us z)) hc).app (MSt.Cat.one (hst.keep kp5))
        · rw [List.length_append]
          have : qs.length ≤ 64 := hql
          omega
        · exact (hpr.keep fun b us z => kp5 b us (kp4 b us z)).app (hqr.keep kp5)
      rintro H4 ⟨us, ps, rs, s4, hd4, gF4, gS4, lu, hc, hpl, hpr, hix⟩
      rw [Int.toNat_natCast] at lu hpl
      have hn4 := s4 _ _ nnd nnF hn3
      have gP4 := s4 _ _ nPG nPF gP3
      have gD4 := s4 _ _ nDU nDF gD3
      replace pl := pl.keep (bi3.kp s4)
      clear bi3 s4 hd3 hn3 gP3 gD3 gF3
      k_updF
      refine WP.tupL (SqL.of gS4) (fun T hT => ?_)
      have e5 : Same H4 (upd H4 T (.tup us)) := WP.same_new hT
      have gT5 : (upd H4 T (.tup us)) T = some (.tup us) := upd_same
      generalize upd H4 T _ = H5 at e5 gT5 ⊢
      have kp5 : ∀ b us, SqT K H4 b us → SqT K H5 b us := fun b us h => WP.sqt e5 h
      replace hc := cat_keep kp5 hc
      replace hpr := hpr.keep kp5
      replace pl := pl.keep kp5
      have hd5 := hd4.same e5
      have hn5 := e5 _ _ hn4
      have gP5 := e5 _ _ gP4
      have gD5 := e5 _ _ gD4
      have gF5 := e5 _ _ gF4
      clear e5 kp5 hd4 hn4 gP4 gD4 gF4 gS4 hT
      k_updF
      refine WP.tyL (SqL.of gP5) ?_
      k_updF
      have hws : i < ws.length := by omega
      obtain ⟨wd, hwd⟩ : ∃ w, ws[i]? = some w := ⟨_, List.getElem?_eq_getElem hws⟩
      refine WP.ixL (SqL.of hn5) (v := .str (SX.S wd)) (atI_nat (by show (ws.map _)[i]? = _; rw [List.getElem?_map, hwd]; rfl)) ?_
      k_updF
      refine ⟨WP.sz (show 2 ≤ 1000000 by decide), fun A0 hA => ?_⟩
      generalize hG : upd H5 A0 _ = H6
      have e6 : Same H5 H6 := hG ▸ WP.same_new hA
      have gA6 := at_upd hG
      have kp6 : ∀ b us, SqT K H5 b us → SqT K H6 b us := fun b us h => WP.sqt e6 h
      replace hc := cat_keep kp6 hc
      replace hpr := hpr.keep kp6
      replace pl := pl.keep kp6
      have hd6 := hd5.same e6
      have hn6 := e6 _ _ hn5
      have gP6 := e6 _ _ gP5
      have gD6 := e6 _ _ gD5
      have gF6 := e6 _ _ gF5
      have gT6 := e6 _ _ gT5
      have nAP : A0 ≠ PG := fun z => by rw [z, gP6] at gA6; cases gA6
      have nTP : T ≠ PG := fun z => by rw [z, gP6] at gT6; cases gT6
      clear e6 kp6 hd5 hn5 gP5 gD5 gF5 gT5 hA hG
      have lxs := pl.lx
      k_updF
      refine WP.appL gP6 (by rw [sizeLine_eq]; omega) ?_
      generalize hG : upd H6 PG _ = H7
      have kp7 : ∀ b us, SqT K H6 b us → SqT K H7 b us := fun b us h => hG ▸ WP.sqtX (d := PG) WP.Sx.upd gP6 h
      replace hc := cat_keep kp7 hc
      replace hpr := hpr.keep kp7
      replace pl := pl.keep kp7
      have hd7 : DS K H7 d z := hG ▸ hd6.mut ⟨nPG, nPGz⟩
      have hn7 : H7 np = some (.lst (tL ws)) := by rw [← hG, upd_ne nPGn]; exact hn6
      have gP7 : H7 PG = some (.lst (xs ++ [.ref A0])) := by rw [← hG]; exact upd_same
      have gD7 : H7 DU = some (.lst ys) := by rw [← hG, upd_ne (Ne.symm nPD)]; exact gD6
      have gF7 : H7 F = some (.lst rs) := by rw [← hG, upd_ne (Ne.symm nPF)]; exact gF6
      have gT7 : SqT K H7 T us := kp7 _ _ (SqT.of gT6)
      have gA7 : SqT K H7 A0 [.str (SX.S wd), .ref T] := kp7 _ _ (SqT.of gA6)
      clear kp7 hd6 hn6 gP6 gD6 gF6 gT6 gA6 hG
      k_updF
      refine ⟨T, us, ps, rfl, .inr gT7, hc, by omega, fun G qs H8 _ e8 gG8 pr8 => ?_⟩
      have kp8 : ∀ b us, SqT K H7 b us → SqT K H8 b us := fun b us h => WP.sqt e8 h
      replace hc := cat_keep kp8 hc
      replace hpr := hpr.keep kp8
      replace pl := pl.keep kp8
      have hd8 := hd7.same e8
      have hn8 := e8 _ _ hn7
      have gP8 := e8 _ _ gP7
      have gD8 := e8 _ _ gD7
      have gF8 := e8 _ _ gF7
      replace gT7 := kp8 _ _ gT7
      replace gA7 := kp8 _ _ gA7
      clear e8 kp8 hd7 hn7 gP7 gD7 gF7
      k_updF
      refine WP.isY (MW.tyL (SqL.of gG8)) ?_
      refine ⟨_, rfl, WP.brF rfl ?_⟩
      k_updF
      refine WP.tupL (SqL.of gG8) (fun P1 hP1 => ?_)
      generalize hG : upd H8 P1 _ = H9
      have e9 : Same H8 H9 := hG ▸ WP.same_new hP1
      have gQ9 := at_upd hG
      clear hG hP1
      k_updF
      refine WP.tupL (SqL.of (e9 _ _ gF8)) (fun P2 hP2 => ?_)
      generalize hG : upd H9 P2 _ = H10
      have e10 : Same H9 H10 := hG ▸ WP.same_new hP2
      have gR10 := at_upd hG
      have gQ10 := e10 _ _ gQ9
      replace e10 := e9.trans e10
      clear hG hP2 e9 gQ9
      have kp10 : ∀ b us, SqT K H8 b us → SqT K H10 b us := fun b us h => WP.sqt e10 h
      replace hc := cat_keep kp10 hc
      replace hpr := hpr.keep kp10
      replace pr8 := pr8.keep kp10
      replace pl := pl.keep kp10
      replace hd8 := hd8.same e10
      replace hn8 := e10 _ _ hn8
      replace gP8 := e10 _ _ gP8
      replace gD8 := e10 _ _ gD8
      replace gF8 := e10 _ _ gF8
      replace gT7 := kp10 _ _ gT7
      replace gA7 := kp10 _ _ gA7
      clear e10 kp10 gG8
      have okp : ∀ r ∈ ps, WP.SOk (SX.S r.1) ∧ WP.SOk (SX.S r.2) := fun r hr => by
        obtain ⟨i, j, _, h1, h2⟩ := hix r hr
        exact ⟨WP.sok_S fun c hc => by have := (okw _ (List.mem_of_getElem? h1)).2 c hc; omega, WP.sok_S fun c hc => by have := (okw _ (List.mem_of_getElem? h2)).2 c hc; omega⟩
      k_updF
      refine ⟨_, _, rfl, eqv_pairs (SqT.of gQ10) (SqT.of gR10) pr8 hpr (by omega) okp, ?_⟩
      k_updF
      refine WP.brF rfl ?_
      k_updF
      obtain ⟨ix, rfl, hixq⟩ := ix_of hix
      rw [List.length_map] at hpl
      refine ⟨Nat.zero_le _, fun Z hZ => ?_⟩
      generalize hG : upd H10 Z _ = H11
      have e11 : Same H10 H11 := hG ▸ WP.same_new hZ
      have gZ11 := at_upd hG
      have nZd := hd8.new hZ
      have nZn := ne_of_none hn8 hZ
      have nZP := ne_of_none gP8 hZ
      have nZD := ne_of_none gD8 hZ
      have nZF := ne_of_none gF8 hZ
      have prl := hpr.1
      rw [List.length_map] at prl
      clear hG gQ10 gR10 pr8
      k_updF
      refine ⟨_, rfl, by omega, by omega, for_range (lo := 0) (n := _) (fun j σ' H' => ∃ (z8 z12 z13 : Option V), σ' = [some (.ref a), some (.ref d), some (.int (n : Int)), some (.ref np), some (.ref PG), some (.ref DU), some (.int (i : Int)), some (.ref F), z8, some (.ref T), some (.ref G), some (.ref Z), z12, z13] ∧ Same H10 H' ∧ H' Z = some (.lst (WP.iL ((List.range j).filter fun j => ix.any (sat j))))) ⟨_, _, _, rfl, e11, gZ11⟩ ?_ ?_⟩
      · clear e11 gZ11
        rintro j σ' H11 hj ⟨z8, z12, z13, rfl, e11, gZ⟩
        rw [Int.toNat_natCast] at hj
        rw [Int.zero_add]
        k_updF
        refine ⟨F, rfl, ⟨_, SqL.of (e11 _ _ gF8)⟩, fun M hM => lc_list (K := K) (a := F) (xs := rs) (fun l H' => Same H11 H' ∧ H' M = some (.lst (List.replicate ((ix.take l).countP (sat j)) (.int 1)))) ⟨WP.same_new hM, upd_same⟩ (fun l H' _ h => SqL.of (h.1 _ _ (e11 _ _ gF8))) ?_ ?_⟩
        · rintro l r H12 hr ⟨e12, gM⟩
          obtain ⟨q, hq⟩ : ∃ q, ix[l]? = some q := ⟨_, List.getElem?_eq_getElem (by have := (List.getElem?_eq_some_iff.mp hr).1; omega)⟩
          obtain ⟨t, rfl, ht⟩ := hpr.2 l r (MSt.pr ws q) hr (by rw [List.getElem?_map, hq]; rfl)
          obtain ⟨q1, q2⟩ := hixq q (List.mem_of_getElem? hq)
          have w1 : ws[q.1]? = some (MSt.pr ws q).1 := by show _ = some (ws.getD q.1 []); rw [List.getD_eq_getElem?_getD, List.getElem?_eq_getElem (by omega)]; rfl
          have w2 : ws[q.2]? = some (MSt.pr ws q).2 := by show _ = some (ws.getD q.2 []); rw [List.getD_eq_getElem?_getD, List.getElem?_eq_getElem (by omega)]; rfl
          have et : (ix.take (l + 1)).countP (sat j) = (ix.take l).countP (sat j) + (if sat j q then 1 else 0) := by
            rw [List.take_succ, hq, List.countP_append]; simp
          have e12' := e11.trans e12
          have hn12 := e12' _ _ hn8
          have ll := (List.getElem?_eq_some_iff.mp hq).1
          have cl := List.countP_le_length (p := sat j) (l := ix.take l)
          rw [List.length_take] at cl
          refine WP.unT (WP.sqt e12' ht) rfl ?_
          k_updF
          refine ⟨rfl, ?_⟩
          k_updF
          refine WP.tyL (SqL.of hn12) ?_
          k_updF
          refine indexT hn12 nd w1 ?_
          k_updF
          have no : sat j q = false → Same H11 H12 ∧ H12 M = some (.lst (List.replicate ((ix.take (l + 1)).countP (sat j)) (.int 1))) := fun h => ⟨e12, by rw [et, h]; exact gM⟩
          refine WP.br (fun h1 => ?_) (fun h1 => ?_)
          · k_updF
            refine WP.tyL (SqL.of hn12) ?_
            k_updF
            refine indexT hn12 nd w2 ?_
            k_updF
            by_cases h2 : (j : Int) ≤ (q.2 : Int)
            · rw [decide_eq_true h2]
              refine WP.brT rfl ?_
              k_updF
              refine ⟨_, gM, by rw [List.length_replicate, sizeLine_eq]; omega, WP.same_mut e12 hM, ?_⟩
              rw [upd_same, et, show sat j q = true from by unfold sat; rw [decide_eq_true (by omega), decide_eq_true (by omega)]; rfl, if_pos rfl, List.replicate_succ']
            · rw [decide_eq_false h2]
              refine WP.brF rfl ?_
              exact no (by unfold sat; rw [decide_eq_false (show ¬ j ≤ q.2 by omega), Bool.and_false])
          · exact WP.brF rfl (no (by unfold sat; rw [decide_eq_false (show ¬ q.1 ≤ j by omega), Bool.false_and]))
        rintro H12 ⟨e12, gM⟩
        rw [prl, List.take_length] at gM
        have gZ12 := e12 _ _ gZ
        replace e12 := e11.trans e12
        k_updF
        refine WP.lenL (SqL.of gM) ?_
        rw [List.length_replicate]
        k_updF
        have hany := any_cnt (sat j) ix
        refine WP.br (fun h1 => ?_) (fun h1 => ?_)
        · k_updF
          refine WP.tyL (SqL.of gZ12) ?_
          k_updF
          refine WP.appL gZ12 (by rw [List.length_map, sizeLine_eq]; have := List.length_filter_le (fun j => ix.any (sat j)) (List.range j); rw [List.length_range] at this; omega) ?_
          rw [WP.app_iL]
          refine ⟨_, _, _, rfl, WP.same_mut e12 hZ, ?_⟩
          rw [upd_same, List.range_succ, List.filter_append, List.filter_cons_of_pos (by rw [hany]; exact decide_eq_true (by omega))]
          rfl
        · k_updF
          refine ⟨_, _, _, rfl, e12, ?_⟩
          rw [gZ12, List.range_succ, List.filter_append, List.filter_cons_of_neg (by rw [hany, decide_eq_false (by omega)]; exact Bool.false_ne_true)]
          simp
      clear e11 gZ11
      rintro σ' H11 ⟨z8, z12, z13, rfl, e11, gZ⟩
      rw [Int.toNat_natCast, ← lws] at gZ
      k_updF
      have kp11 : ∀ b us, SqT K H10 b us → SqT K H11 b us := fun b us h => WP.sqt e11 h
      replace hc := cat_keep kp11 hc
      replace pl := pl.keep kp11
      replace hd8 := hd8.same e11
      replace hn8 := e11 _ _ hn8
      replace gP8 := e11 _ _ gP8
      replace gD8 := e11 _ _ gD8
      replace gT7 := kp11 _ _ gT7
      replace gA7 := kp11 _ _ gA7
      clear e11 kp11 gF8 hpr
      refine WP.tyL (SqL.of gD8) ?_
      k_updF
      refine WP.tupL (SqL.of gZ) (fun PT hPT => ?_)
      generalize hG : upd H11 PT _ = H12
      have e12 : Same H11 H12 := hG ▸ WP.same_new hPT
      have gT12 := at_upd hG
      have gD12 := e12 _ _ gD8
      have ly := pl.g.1
      rw [List.length_map, pl.li] at ly
      have nTD : PT ≠ DU := fun z => by rw [z, gD12] at gT12; cases gT12
      k_updF
      refine WP.appL gD12 (by rw [sizeLine_eq]; omega) ?_
      have kp : ∀ b us, SqT K H11 b us → SqT K (upd H12 DU (.lst (ys ++ [.ref PT]))) b us := fun b us h => WP.sqtX (d := DU) WP.Sx.upd gD12 (WP.sqt e12 h)
      refine ⟨_, _, _, _, _, _, _, _, xs ++ [.ref A0], ys ++ [.ref PT], ixs ++ [ix], rfl, (hd8.same e12).mut ⟨nDU, nDUz⟩, by rw [upd_ne nDUn]; exact e12 _ _ hn8, by rw [upd_ne nPD]; exact e12 _ _ gP8, upd_same, ?_⟩
      exact (pl.keep kp).snoc hwd (kp _ _ gA7) (kp _ _ gT7) (cat_keep kp hc) (SqT.of (by rw [upd_ne nTD]; exact gT12)) ⟨by omega, hixq⟩
    rintro σ' H1 ⟨z6, z7, z8, z9, z10, z11, z12, z13, xs, ys, ixs, rfl, hd1, hn1, gP1, gD1, pl⟩
    rw [Int.toNat_natCast] at pl
    k_updF
    refine WP.tupL (SqL.of gP1) (fun P1 hP1 => ?_)
    generalize hG : upd H1 P1 _ = H2
    have e2 : Same H1 H2 := hG ▸ WP.same_new hP1
    have g2 := at_upd hG
    have pl2 := pl.keep fun b us h => WP.sqt e2 h
    k_updF
    refine ⟨P1, ws, ixs, rfl, ⟨xs, SqT.of g2, by rw [pl2.lx, lws], by rw [pl2.li, lws], pl2.p⟩, nd, by omega, pl2.q, fun q ys2 H3 e3 hq gr => ?_⟩
    have gD3 := e3 _ _ (e2 _ _ gD1)
    k_updF
    refine WP.tupL (SqL.of gD3) (fun P2 hP2 => ?_)
    generalize hG : upd H3 P2 _ = H4
    have e4 : Same H3 H4 := hG ▸ WP.same_new hP2
    have g4 := at_upd hG
    refine ⟨_, _, rfl, eqv_rows (WP.sqt e4 hq) (SqT.of g4) (gr.keep fun b us h => WP.sqt e4 h) (pl2.g.keep fun b us h => WP.sqt (e3.trans e4) h) (by rw [List.length_map, pl.li]; omega) (fun r hr => ?_), ?_⟩
    · obtain ⟨ix, _, rfl⟩ := List.mem_map.mp hr
      have := List.length_filter_le (fun j => ix.any fun q => decide (q.1 ≤ j) && decide (j ≤ q.2)) (List.range ws.length)
      rw [List.length_range] at this
      unfold MSt.row
      omega
    · exact k _
end
theorem all_mk {l : PySem.W.OpenLaw} {w : World} {K : PySem.W.Frag} {h : Heap} {mg : Str → Option Value} {fa : Addr} (X : K.In h) (G : h.Ns mainGlobals mg) (hfa : mg "law" = some (.ref fa))
    {fx0 : Addr} {odx0 anx0 : Option Addr} {slx0 : Array (Option Value)} {ocx0 kVx0 dcx0 pmx0 cdx0 ctx0 : Value}
    (ax0 : PySem.W.nsIn K mainGlobals "_law_draws" = some (some (.ref fx0))) (lx0 : K.lookup fx0 = some ⟨ocx0, odx0, .func (PySem.W.fnOf "_law_draws" "_law_draws" (defArgs s__law_draws) (defBody s__law_draws) (defScope s__law_draws) .none kVx0 dcx0 pmx0 anx0 cdx0 ctx0), slx0⟩) (cx0 : PySem.W.codeIn K cdx0 "_law_draws" = true) (kx0 : PySem.W.keepIn K (.ref fx0) = true)
    {fx1 : Addr} {odx1 anx1 : Option Addr} {slx1 : Array (Option Value)} {ocx1 kVx1 dcx1 pmx1 cdx1 ctx1 : Value}
    (ax1 : PySem.W.nsIn K mainGlobals "_law_draw" = some (some (.ref fx1))) (lx1 : K.lookup fx1 = some ⟨ocx1, odx1, .func (PySem.W.fnOf "_law_draw" "_law_draw" (defArgs s__law_draw) (defBody s__law_draw) (defScope s__law_draw) .none kVx1 dcx1 pmx1 anx1 cdx1 ctx1), slx1⟩) (cx1 : PySem.W.codeIn K cdx1 "_law_draw" = true) (kx1 : PySem.W.keepIn K (.ref fx1) = true)
    {fx2 : Addr} {odx2 anx2 : Option Addr} {slx2 : Array (Option Value)} {ocx2 kVx2 dcx2 pmx2 cdx2 ctx2 : Value}
    (ax2 : PySem.W.nsIn K mainGlobals "_law_reserved" = some (some (.ref fx2))) (lx2 : K.lookup fx2 = some ⟨ocx2, odx2, .func (PySem.W.fnOf "_law_reserved" "_law_reserved" (defArgs s__law_reserved) (defBody s__law_reserved) (defScope s__law_reserved) .none kVx2 dcx2 pmx2 anx2 cdx2 ctx2), slx2⟩) (cx2 : PySem.W.codeIn K cdx2 "_law_reserved" = true) (kx2 : PySem.W.keepIn K (.ref fx2) = true)
    {fx3 : Addr} {odx3 anx3 : Option Addr} {slx3 : Array (Option Value)} {ocx3 kVx3 dcx3 pmx3 cdx3 ctx3 : Value}
    (ax3 : PySem.W.nsIn K mainGlobals "_law_name" = some (some (.ref fx3))) (lx3 : K.lookup fx3 = some ⟨ocx3, odx3, .func (PySem.W.fnOf "_law_name" "_law_name" (defArgs s__law_name) (defBody s__law_name) (defScope s__law_name) .none kVx3 dcx3 pmx3 anx3 cdx3 ctx3), slx3⟩) (cx3 : PySem.W.codeIn K cdx3 "_law_name" = true) (kx3 : PySem.W.keepIn K (.ref fx3) = true)
    {fx4 : Addr} {odx4 anx4 : Option Addr} {slx4 : Array (Option Value)} {ocx4 kVx4 dcx4 pmx4 cdx4 ctx4 : Value}
    (ax4 : PySem.W.nsIn K mainGlobals "_law_names" = some (some (.ref fx4))) (lx4 : K.lookup fx4 = some ⟨ocx4, odx4, .func (PySem.W.fnOf "_law_names" "_law_names" (defArgs s__law_names) (defBody s__law_names) (defScope s__law_names) .none kVx4 dcx4 pmx4 anx4 cdx4 ctx4), slx4⟩) (cx4 : PySem.W.codeIn K cdx4 "_law_names" = true) (kx4 : PySem.W.keepIn K (.ref fx4) = true)
    {fx5 : Addr} {odx5 anx5 : Option Addr} {slx5 : Array (Option Value)} {ocx5 kVx5 dcx5 pmx5 cdx5 ctx5 : Value}
    (ax5 : PySem.W.nsIn K mainGlobals "_law_same" = some (some (.ref fx5))) (lx5 : K.lookup fx5 = some ⟨ocx5, odx5, .func (PySem.W.fnOf "_law_same" "_law_same" (defArgs s__law_same) (defBody s__law_same) (defScope s__law_same) .none kVx5 dcx5 pmx5 anx5 cdx5 ctx5), slx5⟩) (cx5 : PySem.W.codeIn K cdx5 "_law_same" = true) (kx5 : PySem.W.keepIn K (.ref fx5) = true)
    {fx6 : Addr} {odx6 anx6 : Option Addr} {slx6 : Array (Option Value)} {ocx6 kVx6 dcx6 pmx6 cdx6 ctx6 : Value}
    (ax6 : PySem.W.nsIn K mainGlobals "inner_statements" = some (some (.ref fx6))) (lx6 : K.lookup fx6 = some ⟨ocx6, odx6, .func (PySem.W.fnOf "inner_statements" "inner_statements" (defArgs s_inner_statements) (defBody s_inner_statements) (defScope s_inner_statements) .none kVx6 dcx6 pmx6 anx6 cdx6 ctx6), slx6⟩) (cx6 : PySem.W.codeIn K cdx6 "inner_statements" = true) (kx6 : PySem.W.keepIn K (.ref fx6) = true)
    {fx7 : Addr} {odx7 anx7 : Option Addr} {slx7 : Array (Option Value)} {ocx7 kVx7 dcx7 pmx7 cdx7 ctx7 : Value}
    (ax7 : PySem.W.nsIn K mainGlobals "performed" = some (some (.ref fx7))) (lx7 : K.lookup fx7 = some ⟨ocx7, odx7, .func (PySem.W.fnOf "performed" "performed" (defArgs s_performed) (defBody s_performed) (defScope s_performed) .none kVx7 dcx7 pmx7 anx7 cdx7 ctx7), slx7⟩) (cx7 : PySem.W.codeIn K cdx7 "performed" = true) (kx7 : PySem.W.keepIn K (.ref fx7) = true)
    {fx8 : Addr} {odx8 anx8 : Option Addr} {slx8 : Array (Option Value)} {ocx8 kVx8 dcx8 pmx8 cdx8 ctx8 : Value}
    (ax8 : PySem.W.nsIn K mainGlobals "graph_of" = some (some (.ref fx8))) (lx8 : K.lookup fx8 = some ⟨ocx8, odx8, .func (PySem.W.fnOf "graph_of" "graph_of" (defArgs s_graph_of) (defBody s_graph_of) (defScope s_graph_of) .none kVx8 dcx8 pmx8 anx8 cdx8 ctx8), slx8⟩) (cx8 : PySem.W.codeIn K cdx8 "graph_of" = true) (kx8 : PySem.W.keepIn K (.ref fx8) = true)
    {fx9 : Addr} {odx9 anx9 : Option Addr} {slx9 : Array (Option Value)} {ocx9 kVx9 dcx9 pmx9 cdx9 ctx9 : Value}
    (ax9 : PySem.W.nsIn K mainGlobals "_law_perform" = some (some (.ref fx9))) (lx9 : K.lookup fx9 = some ⟨ocx9, odx9, .func (PySem.W.fnOf "_law_perform" "_law_perform" (defArgs s__law_perform) (defBody s__law_perform) (defScope s__law_perform) .none kVx9 dcx9 pmx9 anx9 cdx9 ctx9), slx9⟩) (cx9 : PySem.W.codeIn K cdx9 "_law_perform" = true) (kx9 : PySem.W.keepIn K (.ref fx9) = true)
    {fx10 : Addr} {odx10 anx10 : Option Addr} {slx10 : Array (Option Value)} {ocx10 kVx10 dcx10 pmx10 cdx10 ctx10 : Value}
    (ax10 : PySem.W.nsIn K mainGlobals "_law_statement" = some (some (.ref fx10))) (lx10 : K.lookup fx10 = some ⟨ocx10, odx10, .func (PySem.W.fnOf "_law_statement" "_law_statement" (defArgs s__law_statement) (defBody s__law_statement) (defScope s__law_statement) .none kVx10 dcx10 pmx10 anx10 cdx10 ctx10), slx10⟩) (cx10 : PySem.W.codeIn K cdx10 "_law_statement" = true) (kx10 : PySem.W.keepIn K (.ref fx10) = true)
    {fx11 : Addr} {odx11 anx11 : Option Addr} {slx11 : Array (Option Value)} {ocx11 kVx11 dcx11 pmx11 cdx11 ctx11 : Value}
    (ax11 : PySem.W.nsIn K mainGlobals "_law_block" = some (some (.ref fx11))) (lx11 : K.lookup fx11 = some ⟨ocx11, odx11, .func (PySem.W.fnOf "_law_block" "_law_block" (defArgs s__law_block) (defBody s__law_block) (defScope s__law_block) .none kVx11 dcx11 pmx11 anx11 cdx11 ctx11), slx11⟩) (cx11 : PySem.W.codeIn K cdx11 "_law_block" = true) (kx11 : PySem.W.keepIn K (.ref fx11) = true)
    {fx12 : Addr} {odx12 anx12 : Option Addr} {slx12 : Array (Option Value)} {ocx12 kVx12 dcx12 pmx12 cdx12 ctx12 : Value}
    (ax12 : PySem.W.nsIn K mainGlobals "law" = some (some (.ref fx12))) (lx12 : K.lookup fx12 = some ⟨ocx12, odx12, .func (PySem.W.fnOf "law" "law" (defArgs s_law) (defBody s_law) (defScope s_law) .none kVx12 dcx12 pmx12 anx12 cdx12 ctx12), slx12⟩) (cx12 : PySem.W.codeIn K cdx12 "law" = true) (kx12 : PySem.W.keepIn K (.ref fx12) = true)
    (z_bool : PySem.W.nsIn K mainGlobals "bool" = some none)
    (z_enumerate : PySem.W.nsIn K mainGlobals "enumerate" = some none)
    (z_int : PySem.W.nsIn K mainGlobals "int" = some none)
    (z_isinstance : PySem.W.nsIn K mainGlobals "isinstance" = some none)
    (z_len : PySem.W.nsIn K mainGlobals "len" = some none)
    (z_list : PySem.W.nsIn K mainGlobals "list" = some none)
    (z_max : PySem.W.nsIn K mainGlobals "max" = some none)
    (z_range : PySem.W.nsIn K mainGlobals "range" = some none)
    (z_sorted : PySem.W.nsIn K mainGlobals "sorted" = some none)
    (z_str : PySem.W.nsIn K mainGlobals "str" = some none)
    (z_tuple : PySem.W.nsIn K mainGlobals "tuple" = some none)
    (z_zip : PySem.W.nsIn K mainGlobals "zip" = some none)
    {a_INNER_PARTS : Addr} {d_INNER_PARTS : Option Addr} {n_INNER_PARTS : Nat} {s_INNER_PARTS : Array (Option Value)} {TINNER_PARTS_0 TINNER_PARTS_1 : Tok} (g_INNER_PARTS : PySem.W.nsIn K mainGlobals "INNER_PARTS" = some (some (.ref a_INNER_PARTS))) (h_INNER_PARTS : K.lookup a_INNER_PARTS = some ⟨.type "tuple", d_INNER_PARTS, .seq #[.str ("then" : Str) TINNER_PARTS_0, .str ("statements" : Str) TINNER_PARTS_1] n_INNER_PARTS, s_INNER_PARTS⟩)
    {a_STATEMENT_PARTS : Addr} {es_STATEMENT_PARTS : Array DictEntry} {n_STATEMENT_PARTS : Nat} (g_STATEMENT_PARTS : PySem.W.nsIn K mainGlobals "STATEMENT_PARTS" = some (some (.ref a_STATEMENT_PARTS))) (h_STATEMENT_PARTS : K.lookup a_STATEMENT_PARTS = some ⟨.type "dict", none, .dict es_STATEMENT_PARTS n_STATEMENT_PARTS, #[]⟩) (kl_STATEMENT_PARTS : PySem.W.KeysLit w.params es_STATEMENT_PARTS.toList)
    {ASTATEMENT_PARTS_0 : Addr} {d_STATEMENT_PARTS_0 : Option Addr} {n_STATEMENT_PARTS_0 : Nat} {s_STATEMENT_PARTS_0 : Array (Option Value)} {TSTATEMENT_PARTS_0_0 TSTATEMENT_PARTS_0_1 : Tok} (e_STATEMENT_PARTS_0 : PySem.W.nsIn K a_STATEMENT_PARTS "move" = some (some (.ref ASTATEMENT_PARTS_0))) (h_STATEMENT_PARTS_0 : K.lookup ASTATEMENT_PARTS_0 = some ⟨.type "tuple", d_STATEMENT_PARTS_0, .seq #[.str ("source" : Str) TSTATEMENT_PARTS_0_0, .str ("reference" : Str) TSTATEMENT_PARTS_0_1] n_STATEMENT_PARTS_0, s_STATEMENT_PARTS_0⟩)
    {ASTATEMENT_PARTS_1 : Addr} {d_STATEMENT_PARTS_1 : Option Addr} {n_STATEMENT_PARTS_1 : Nat} {s_STATEMENT_PARTS_1 : Array (Option Value)} {TSTATEMENT_PARTS_1_0 TSTATEMENT_PARTS_1_1 TSTATEMENT_PARTS_1_2 TSTATEMENT_PARTS_1_3 : Tok} (e_STATEMENT_PARTS_1 : PySem.W.nsIn K a_STATEMENT_PARTS "set" = some (some (.ref ASTATEMENT_PARTS_1))) (h_STATEMENT_PARTS_1 : K.lookup ASTATEMENT_PARTS_1 = some ⟨.type "tuple", d_STATEMENT_PARTS_1, .seq #[.str ("reference" : Str) TSTATEMENT_PARTS_1_0, .str ("truth" : Str) TSTATEMENT_PARTS_1_1, .str ("expression" : Str) TSTATEMENT_PARTS_1_2, .str ("statements" : Str) TSTATEMENT_PARTS_1_3] n_STATEMENT_PARTS_1, s_STATEMENT_PARTS_1⟩)
    {ASTATEMENT_PARTS_2 : Addr} {d_STATEMENT_PARTS_2 : Option Addr} {n_STATEMENT_PARTS_2 : Nat} {s_STATEMENT_PARTS_2 : Array (Option Value)} {TSTATEMENT_PARTS_2_0 TSTATEMENT_PARTS_2_1 TSTATEMENT_PARTS_2_2 TSTATEMENT_PARTS_2_3 TSTATEMENT_PARTS_2_4 TSTATEMENT_PARTS_2_5 : Tok} (e_STATEMENT_PARTS_2 : PySem.W.nsIn K a_STATEMENT_PARTS "divide" = some (some (.ref ASTATEMENT_PARTS_2))) (h_STATEMENT_PARTS_2 : K.lookup ASTATEMENT_PARTS_2 = some ⟨.type "tuple", d_STATEMENT_PARTS_2, .seq #[.str ("expression" : Str) TSTATEMENT_PARTS_2_0, .str ("expression" : Str) TSTATEMENT_PARTS_2_1, .str ("reference" : Str) TSTATEMENT_PARTS_2_2, .str ("truth" : Str) TSTATEMENT_PARTS_2_3, .str ("remainder" : Str) TSTATEMENT_PARTS_2_4, .str ("statements" : Str) TSTATEMENT_PARTS_2_5] n_STATEMENT_PARTS_2, s_STATEMENT_PARTS_2⟩)
    {ASTATEMENT_PARTS_3 : Addr} {d_STATEMENT_PARTS_3 : Option Addr} {n_STATEMENT_PARTS_3 : Nat} {s_STATEMENT_PARTS_3 : Array (Option Value)} {TSTATEMENT_PARTS_3_0 TSTATEMENT_PARTS_3_1 TSTATEMENT_PARTS_3_2 : Tok} (e_STATEMENT_PARTS_3 : PySem.W.nsIn K a_STATEMENT_PARTS "if" = some (some (.ref ASTATEMENT_PARTS_3))) (h_STATEMENT_PARTS_3 : K.lookup ASTATEMENT_PARTS_3 = some ⟨.type "tuple", d_STATEMENT_PARTS_3, .seq #[.str ("condition" : Str) TSTATEMENT_PARTS_3_0, .str ("then" : Str) TSTATEMENT_PARTS_3_1, .str ("statements" : Str) TSTATEMENT_PARTS_3_2] n_STATEMENT_PARTS_3, s_STATEMENT_PARTS_3⟩)
    {ASTATEMENT_PARTS_4 : Addr} {d_STATEMENT_PARTS_4 : Option Addr} {n_STATEMENT_PARTS_4 : Nat} {s_STATEMENT_PARTS_4 : Array (Option Value)} {TSTATEMENT_PARTS_4_0 TSTATEMENT_PARTS_4_1 TSTATEMENT_PARTS_4_2 : Tok} (e_STATEMENT_PARTS_4 : PySem.W.nsIn K a_STATEMENT_PARTS "perform" = some (some (.ref ASTATEMENT_PARTS_4))) (h_STATEMENT_PARTS_4 : K.lookup ASTATEMENT_PARTS_4 = some ⟨.type "tuple", d_STATEMENT_PARTS_4, .seq #[.str ("name" : Str) TSTATEMENT_PARTS_4_0, .str ("name" : Str) TSTATEMENT_PARTS_4_1, .str ("way" : Str) TSTATEMENT_PARTS_4_2] n_STATEMENT_PARTS_4, s_STATEMENT_PARTS_4⟩)
    {ASTATEMENT_PARTS_5 : Addr} {d_STATEMENT_PARTS_5 : Option Addr} {n_STATEMENT_PARTS_5 : Nat} {s_STATEMENT_PARTS_5 : Array (Option Value)} {TSTATEMENT_PARTS_5_0 TSTATEMENT_PARTS_5_1 TSTATEMENT_PARTS_5_2 : Tok} (e_STATEMENT_PARTS_5 : PySem.W.nsIn K a_STATEMENT_PARTS "read" = some (some (.ref ASTATEMENT_PARTS_5))) (h_STATEMENT_PARTS_5 : K.lookup ASTATEMENT_PARTS_5 = some ⟨.type "tuple", d_STATEMENT_PARTS_5, .seq #[.str ("name" : Str) TSTATEMENT_PARTS_5_0, .str ("statements" : Str) TSTATEMENT_PARTS_5_1, .str ("statements" : Str) TSTATEMENT_PARTS_5_2] n_STATEMENT_PARTS_5, s_STATEMENT_PARTS_5⟩)
    {ASTATEMENT_PARTS_6 : Addr} {d_STATEMENT_PARTS_6 : Option Addr} {n_STATEMENT_PARTS_6 : Nat} {s_STATEMENT_PARTS_6 : Array (Option Value)} {TSTATEMENT_PARTS_6_0 : Tok} (e_STATEMENT_PARTS_6 : PySem.W.nsIn K a_STATEMENT_PARTS "write" = some (some (.ref ASTATEMENT_PARTS_6))) (h_STATEMENT_PARTS_6 : K.lookup ASTATEMENT_PARTS_6 = some ⟨.type "tuple", d_STATEMENT_PARTS_6, .seq #[.str ("name" : Str) TSTATEMENT_PARTS_6_0] n_STATEMENT_PARTS_6, s_STATEMENT_PARTS_6⟩)
    {ASTATEMENT_PARTS_7 : Addr} {d_STATEMENT_PARTS_7 : Option Addr} {n_STATEMENT_PARTS_7 : Nat} {s_STATEMENT_PARTS_7 : Array (Option Value)} {TSTATEMENT_PARTS_7_0 : Tok} (e_STATEMENT_PARTS_7 : PySem.W.nsIn K a_STATEMENT_PARTS "show" = some (some (.ref ASTATEMENT_PARTS_7))) (h_STATEMENT_PARTS_7 : K.lookup ASTATEMENT_PARTS_7 = some ⟨.type "tuple", d_STATEMENT_PARTS_7, .seq #[.str ("sources" : Str) TSTATEMENT_PARTS_7_0] n_STATEMENT_PARTS_7, s_STATEMENT_PARTS_7⟩)
    {ASTATEMENT_PARTS_8 : Addr} {d_STATEMENT_PARTS_8 : Option Addr} {n_STATEMENT_PARTS_8 : Nat} {s_STATEMENT_PARTS_8 : Array (Option Value)} {TSTATEMENT_PARTS_8_0 TSTATEMENT_PARTS_8_1 TSTATEMENT_PARTS_8_2 : Tok} (e_STATEMENT_PARTS_8 : PySem.W.nsIn K a_STATEMENT_PARTS "sort" = some (some (.ref ASTATEMENT_PARTS_8))) (h_STATEMENT_PARTS_8 : K.lookup ASTATEMENT_PARTS_8 = some ⟨.type "tuple", d_STATEMENT_PARTS_8, .seq #[.str ("name" : Str) TSTATEMENT_PARTS_8_0, .str ("name" : Str) TSTATEMENT_PARTS_8_1, .str ("truth" : Str) TSTATEMENT_PARTS_8_2] n_STATEMENT_PARTS_8, s_STATEMENT_PARTS_8⟩)
    {ASTATEMENT_PARTS_9 : Addr} {d_STATEMENT_PARTS_9 : Option Addr} {n_STATEMENT_PARTS_9 : Nat} {s_STATEMENT_PARTS_9 : Array (Option Value)} {TSTATEMENT_PARTS_9_0 : Tok} (e_STATEMENT_PARTS_9 : PySem.W.nsIn K a_STATEMENT_PARTS "clear" = some (some (.ref ASTATEMENT_PARTS_9))) (h_STATEMENT_PARTS_9 : K.lookup ASTATEMENT_PARTS_9 = some ⟨.type "tuple", d_STATEMENT_PARTS_9, .seq #[.str ("reference" : Str) TSTATEMENT_PARTS_9_0] n_STATEMENT_PARTS_9, s_STATEMENT_PARTS_9⟩)
    {ASTATEMENT_PARTS_10 : Addr} {d_STATEMENT_PARTS_10 : Option Addr} {n_STATEMENT_PARTS_10 : Nat} {s_STATEMENT_PARTS_10 : Array (Option Value)} (e_STATEMENT_PARTS_10 : PySem.W.nsIn K a_STATEMENT_PARTS "stop" = some (some (.ref ASTATEMENT_PARTS_10))) (h_STATEMENT_PARTS_10 : K.lookup ASTATEMENT_PARTS_10 = some ⟨.type "tuple", d_STATEMENT_PARTS_10, .seq #[] n_STATEMENT_PARTS_10, s_STATEMENT_PARTS_10⟩)
    : ∃ fd : FuncData, (∀ (s : Shared) (v : Value), BindsTo s fd ⟨[v], []⟩ [("script", v)]) ∧ ∀ base : Heap, K.In base → base.Ns mainGlobals mg → FnOk l.prog w K mg base CX0 12 fa fd ["script"] (sp_law K) := by
  have e := hfa.symm.trans (PySem.W.mg_of X G ax12)
  cases e
  have B : Blt w K mg := ⟨PySem.W.mg_none_of X G z_bool, PySem.W.mg_none_of X G z_enumerate, PySem.W.mg_none_of X G z_int, PySem.W.mg_none_of X G z_isinstance, PySem.W.mg_none_of X G z_len, PySem.W.mg_none_of X G z_list, PySem.W.mg_none_of X G z_max, PySem.W.mg_none_of X G z_range, PySem.W.mg_none_of X G z_sorted, PySem.W.mg_none_of X G z_str, PySem.W.mg_none_of X G z_tuple, PySem.W.mg_none_of X G z_zip, WP.KTp.mk' (PySem.W.mg_of X G g_INNER_PARTS) (fun _ => .inr ⟨_, _, _, h_INNER_PARTS, rfl, rfl, WP.sz (show 2 ≤ 1000000 by decide), (.cons ⟨_, congrArg (Value.str · _) (by decide +kernel)⟩ (.cons ⟨_, congrArg (Value.str · _) (by decide +kernel)⟩ .nil))⟩), WP.KDt.mk' (PySem.W.mg_of X G g_STATEMENT_PARTS) (WP.kdt_cons ⟨_, _, _, h_STATEMENT_PARTS, kl_STATEMENT_PARTS, (congrArg (PySem.W.nsIn K a_STATEMENT_PARTS) (show SX.S [109, 111, 118, 101] = "move" from by decide +kernel)).trans e_STATEMENT_PARTS_0, rfl⟩ (fun _ => .inr ⟨_, _, _, h_STATEMENT_PARTS_0, rfl, rfl, WP.sz (show 2 ≤ 1000000 by decide), (.cons ⟨_, congrArg (Value.str · _) (by decide +kernel)⟩ (.cons ⟨_, congrArg (Value.str · _) (by decide +kernel)⟩ .nil))⟩) (WP.kdt_cons ⟨_, _, _, h_STATEMENT_PARTS, kl_STATEMENT_PARTS, (congrArg (PySem.W.nsIn K a_STATEMENT_PARTS) (show SX.S [115, 101, 116] = "set" from by decide +kernel)).trans e_STATEMENT_PARTS_1, rfl⟩ (fun _ => .inr ⟨_, _, _, h_STATEMENT_PARTS_1, rfl, rfl, WP.sz (show 4 ≤ 1000000 by decide), (.cons ⟨_, congrArg (Value.str · _) (by decide +kernel)⟩ (.cons ⟨_, congrArg (Value.str · _) (by decide +kernel)⟩ (.cons ⟨_, congrArg (Value.str · _) (by decide +kernel)⟩ (.cons ⟨_, congrArg (Value.str · _) (by decide +kernel)⟩ .nil))))⟩) (WP.kdt_cons ⟨_, _, _, h_STATEMENT_PARTS, kl_STATEMENT_PARTS, (congrArg (PySem.W.nsIn K a_STATEMENT_PARTS) (show SX.S [100, 105, 118, 105, 100, 101] = "divide" from by decide +kernel)).trans e_STATEMENT_PARTS_2, rfl⟩ (fun _ => .inr ⟨_, _, _, h_STATEMENT_PARTS_2, rfl, rfl, WP.sz (show 6 ≤ 1000000 by decide), (.cons ⟨_, congrArg (Value.str · _) (by decide +kernel)⟩ (.cons ⟨_, congrArg (Value.str · _) (by decide +kernel)⟩ (.cons ⟨_, congrArg (Value.str · _) (by decide +kernel)⟩ (.cons ⟨_, congrArg (Value.str · _) (by decide +kernel)⟩ (.cons ⟨_, congrArg (Value.str · _) (by decide +kernel)⟩ (.cons ⟨_, congrArg (Value.str · _) (by decide +kernel)⟩ .nil))))))⟩) (WP.kdt_cons ⟨_, _, _, h_STATEMENT_PARTS, kl_STATEMENT_PARTS, (congrArg (PySem.W.nsIn K a_STATEMENT_PARTS) (show SX.S [105, 102] = "if" from by decide +kernel)).trans e_STATEMENT_PARTS_3, rfl⟩ (fun _ => .inr ⟨_, _, _, h_STATEMENT_PARTS_3, rfl, rfl, WP.sz (show 3 ≤ 1000000 by decide), (.cons ⟨_, congrArg (Value.str · _) (by decide +kernel)⟩ (.cons ⟨_, congrArg (Value.str · _) (by decide +kernel)⟩ (.cons ⟨_, congrArg (Value.str · _) (by decide +kernel)⟩ .nil)))⟩) (WP.kdt_cons ⟨_, _, _, h_STATEMENT_PARTS, kl_STATEMENT_PARTS, (congrArg (PySem.W.nsIn K a_STATEMENT_PARTS) (show SX.S [112, 101, 114, 102, 111, 114, 109] = "perform" from by decide +kernel)).trans e_STATEMENT_PARTS_4, rfl⟩ (fun _ => .inr ⟨_, _, _, h_STATEMENT_PARTS_4, rfl, rfl, WP.sz (show 3 ≤ 1000000 by decide), (.cons ⟨_, congrArg (Value.str · _) (by decide +kernel)⟩ (.cons ⟨_, congrArg (Value.str · _) (by decide +kernel)⟩ (.cons ⟨_, congrArg (Value.str · _) (by decide +kernel)⟩ .nil)))⟩) (WP.kdt_cons ⟨_, _, _, h_STATEMENT_PARTS, kl_STATEMENT_PARTS, (congrArg (PySem.W.nsIn K a_STATEMENT_PARTS) (show SX.S [114, 101, 97, 100] = "read" from by decide +kernel)).trans e_STATEMENT_PARTS_5, rfl⟩ (fun _ => .inr ⟨_, _, _, h_STATEMENT_PARTS_5, rfl, rfl, WP.sz (show 3 ≤ 1000000 by decide), (.cons ⟨_, congrArg (Value.str · _) (by decide +kernel)⟩ (.cons ⟨_, congrArg (Value.str · _) (by decide +kernel)⟩ (.cons ⟨_, congrArg (Value.str · _) (by decide +kernel)⟩ .nil)))⟩) (WP.kdt_cons ⟨_, _, _, h_STATEMENT_PARTS, kl_STATEMENT_PARTS, (congrArg (PySem.W.nsIn K a_STATEMENT_PARTS) (show SX.S [119, 114, 105, 116, 101] = "write" from by decide +kernel)).trans e_STATEMENT_PARTS_6, rfl⟩ (fun _ => .inr ⟨_, _, _, h_STATEMENT_PARTS_6, rfl, rfl, WP.sz (show 1 ≤ 1000000 by decide), (.cons ⟨_, congrArg (Value.str · _) (by decide +kernel)⟩ .nil)⟩) (WP.kdt_cons ⟨_, _, _, h_STATEMENT_PARTS, kl_STATEMENT_PARTS, (congrArg (PySem.W.nsIn K a_STATEMENT_PARTS) (show SX.S [115, 104, 111, 119] = "show" from by decide +kernel)).trans e_STATEMENT_PARTS_7, rfl⟩ (fun _ => .inr ⟨_, _, _, h_STATEMENT_PARTS_7, rfl, rfl, WP.sz (show 1 ≤ 1000000 by decide), (.cons ⟨_, congrArg (Value.str · _) (by decide +kernel)⟩ .nil)⟩) (WP.kdt_cons ⟨_, _, _, h_STATEMENT_PARTS, kl_STATEMENT_PARTS, (congrArg (PySem.W.nsIn K a_STATEMENT_PARTS) (show SX.S [115, 111, 114, 116] = "sort" from by decide +kernel)).trans e_STATEMENT_PARTS_8, rfl⟩ (fun _ => .inr ⟨_, _, _, h_STATEMENT_PARTS_8, rfl, rfl, WP.sz (show 3 ≤ 1000000 by decide), (.cons ⟨_, congrArg (Value.str · _) (by decide +kernel)⟩ (.cons ⟨_, congrArg (Value.str · _) (by decide +kernel)⟩ (.cons ⟨_, congrArg (Value.str · _) (by decide +kernel)⟩ .nil)))⟩) (WP.kdt_cons ⟨_, _, _, h_STATEMENT_PARTS, kl_STATEMENT_PARTS, (congrArg (PySem.W.nsIn K a_STATEMENT_PARTS) (show SX.S [99, 108, 101, 97, 114] = "clear" from by decide +kernel)).trans e_STATEMENT_PARTS_9, rfl⟩ (fun _ => .inr ⟨_, _, _, h_STATEMENT_PARTS_9, rfl, rfl, WP.sz (show 1 ≤ 1000000 by decide), (.cons ⟨_, congrArg (Value.str · _) (by decide +kernel)⟩ .nil)⟩) (WP.kdt_cons ⟨_, _, _, h_STATEMENT_PARTS, kl_STATEMENT_PARTS, (congrArg (PySem.W.nsIn K a_STATEMENT_PARTS) (show SX.S [115, 116, 111, 112] = "stop" from by decide +kernel)).trans e_STATEMENT_PARTS_10, rfl⟩ (fun _ => .inr ⟨_, _, _, h_STATEMENT_PARTS_10, rfl, rfl, WP.sz (show 0 ≤ 1000000 by decide), .nil⟩) (fun p hp => by cases hp))))))))))))⟩
  have Fx0 := fun_mk (st := s__law_draws) lx0 cx0 kx0
  have bx0 := Fx0.binds (ps := ["script"]) fun _ _ _ _ _ _ us hl => match us, hl with | [_], _ => rfl
  have Cx0 : ∀ base : Heap, K.In base → base.Ns mainGlobals mg → WP.Callee l.prog w K mg base CX0 1 "_law_draws" ["script"] (sp__law_draws K mg) := fun base p1 p2 => WP.Callee.mk' (ok__law_draws Fx0 B ) (PySem.W.mg_of X G ax0) kx0 bx0
  have Fx1 := fun_mk (st := s__law_draw) lx1 cx1 kx1
  have bx1 := Fx1.binds (ps := ["draws", "limit"]) fun _ _ _ _ _ _ us hl => match us, hl with | [_, _], _ => rfl
  have Cx1 : ∀ base : Heap, K.In base → base.Ns mainGlobals mg → WP.Callee l.prog w K mg base CX0 1 "_law_draw" ["draws", "limit"] (sp__law_draw K mg) := fun base p1 p2 => WP.Callee.mk' (ok__law_draw Fx1 B ) (PySem.W.mg_of X G ax1) kx1 bx1
  have Fx2 := fun_mk (st := s__law_reserved) lx2 cx2 kx2
  have bx2 := Fx2.binds (ps := []) fun _ _ _ _ _ _ us hl => match us, hl with | [], _ => rfl
  have Cx2 : ∀ base : Heap, K.In base → base.Ns mainGlobals mg → WP.Callee l.prog w K mg base CX0 1 "_law_reserved" [] (sp__law_reserved K mg) := fun base p1 p2 => WP.Callee.mk' (ok__law_reserved Fx2 B ) (PySem.W.mg_of X G ax2) kx2 bx2
  have Fx3 := fun_mk (st := s__law_name) lx3 cx3 kx3
  have bx3 := Fx3.binds (ps := ["draws"]) fun _ _ _ _ _ _ us hl => match us, hl with | [_], _ => rfl
  have Cx3 : ∀ base : Heap, K.In base → base.Ns mainGlobals mg → WP.Callee l.prog w K mg base CX0 2 "_law_name" ["draws"] (sp__law_name K mg) := fun base p1 p2 => WP.Callee.mk' (ok__law_name Fx3 B (Cx1 base p1 p2) (Cx2 base p1 p2)) (PySem.W.mg_of X G ax3) kx3 bx3
  have Fx4 := fun_mk (st := s__law_names) lx4 cx4 kx4
  have bx4 := Fx4.binds (ps := ["draws", "count"]) fun _ _ _ _ _ _ us hl => match us, hl with | [_, _], _ => rfl
  have Cx4 : ∀ base : Heap, K.In base → base.Ns mainGlobals mg → WP.Callee l.prog w K mg base CX0 3 "_law_names" ["draws", "count"] (sp__law_names K mg) := fun base p1 p2 => WP.Callee.mk' (ok__law_names Fx4 B (Cx3 base p1 p2)) (PySem.W.mg_of X G ax4) kx4 bx4
  have Fx5 := fun_mk (st := s__law_same) lx5 cx5 kx5
  have bx5 := Fx5.binds (ps := ["actual", "expected"]) fun _ _ _ _ _ _ us hl => match us, hl with | [_, _], _ => rfl
  have Cx5_0 : ∀ base : Heap, K.In base → base.Ns mainGlobals mg → WP.Callee l.prog w K mg base CX0 0 "_law_same" ["actual", "expected"] (sp__law_same K mg 0) := fun base p1 p2 => WP.Callee.mk' ⟨fun _ _ _ _ h => (h : False).elim, fun _ _ _ _ _ _ _ _ _ _ _ _ _ h => (h : False).elim⟩ (PySem.W.mg_of X G ax5) kx5 bx5
  have Cx5_1 : ∀ base : Heap, K.In base → base.Ns mainGlobals mg → WP.Callee l.prog w K mg base CX0 1 "_law_same" ["actual", "expected"] (sp__law_same K mg 1) := fun base p1 p2 => WP.Callee.mk' (ok__law_same (nn := 0) Fx5 B  (Cx5_0 base p1 p2)) (PySem.W.mg_of X G ax5) kx5 bx5
  have Cx5_2 : ∀ base : Heap, K.In base → base.Ns mainGlobals mg → WP.Callee l.prog w K mg base CX0 2 "_law_same" ["actual", "expected"] (sp__law_same K mg 2) := fun base p1 p2 => WP.Callee.mk' (ok__law_same (nn := 1) Fx5 B  (Cx5_1 base p1 p2)) (PySem.W.mg_of X G ax5) kx5 bx5
  have Cx5_3 : ∀ base : Heap, K.In base → base.Ns mainGlobals mg → WP.Callee l.prog w K mg base CX0 3 "_law_same" ["actual", "expected"] (sp__law_same K mg 3) := fun base p1 p2 => WP.Callee.mk' (ok__law_same (nn := 2) Fx5 B  (Cx5_2 base p1 p2)) (PySem.W.mg_of X G ax5) kx5 bx5
  have Cx5 := Cx5_3
  have Fx6 := fun_mk (st := s_inner_statements) lx6 cx6 kx6
  have bx6 := Fx6.binds (ps := ["statement"]) fun _ _ _ _ _ _ us hl => match us, hl with | [_], _ => rfl
  have Cx6 : ∀ base : Heap, K.In base → base.Ns mainGlobals mg → WP.Callee l.prog w K mg base CX0 1 "inner_statements" ["statement"] (sp_inner_statements K mg) := fun base p1 p2 => WP.Callee.mk' (ok_inner_statements Fx6 B ) (PySem.W.mg_of X G ax6) kx6 bx6
  have Fx7 := fun_mk (st := s_performed) lx7 cx7 kx7
  have bx7 := Fx7.binds (ps := ["statements"]) fun _ _ _ _ _ _ us hl => match us, hl with | [_], _ => rfl
  have Cx7_0 : ∀ base : Heap, K.In base → base.Ns mainGlobals mg → WP.Callee l.prog w K mg base CX0 1 "performed" ["statements"] (sp_performed K mg 0) := fun base p1 p2 => WP.Callee.mk' ⟨fun _ _ _ _ h => (h : False).elim, fun _ _ _ _ _ _ _ _ _ _ _ _ _ h => (h : False).elim⟩ (PySem.W.mg_of X G ax7) kx7 bx7
  have Cx7_1 : ∀ base : Heap, K.In base → base.Ns mainGlobals mg → WP.Callee l.prog w K mg base CX0 2 "performed" ["statements"] (sp_performed K mg 1) := fun base p1 p2 => WP.Callee.mk' (ok_performed (nn := 0) Fx7 B (Cx6 base p1 p2) (Cx7_0 base p1 p2)) (PySem.W.mg_of X G ax7) kx7 bx7
  have Cx7_2 : ∀ base : Heap, K.In base → base.Ns mainGlobals mg → WP.Callee l.prog w K mg base CX0 3 "performed" ["statements"] (sp_performed K mg 2) := fun base p1 p2 => WP.Callee.mk' (ok_performed (nn := 1) Fx7 B (Cx6 base p1 p2) (Cx7_1 base p1 p2)) (PySem.W.mg_of X G ax7) kx7 bx7
  have Cx7_3 : ∀ base : Heap, K.In base → base.Ns mainGlobals mg → WP.Callee l.prog w K mg base CX0 4 "performed" ["statements"] (sp_performed K mg 3) := fun base p1 p2 => WP.Callee.mk' (ok_performed (nn := 2) Fx7 B (Cx6 base p1 p2) (Cx7_2 base p1 p2)) (PySem.W.mg_of X G ax7) kx7 bx7
  have Cx7_4 : ∀ base : Heap, K.In base → base.Ns mainGlobals mg → WP.Callee l.prog w K mg base CX0 5 "performed" ["statements"] (sp_performed K mg 4) := fun base p1 p2 => WP.Callee.mk' (ok_performed (nn := 3) Fx7 B (Cx6 base p1 p2) (Cx7_3 base p1 p2)) (PySem.W.mg_of X G ax7) kx7 bx7
  have Cx7_5 : ∀ base : Heap, K.In base → base.Ns mainGlobals mg → WP.Callee l.prog w K mg base CX0 6 "performed" ["statements"] (sp_performed K mg 5) := fun base p1 p2 => WP.Callee.mk' (ok_performed (nn := 4) Fx7 B (Cx6 base p1 p2) (Cx7_4 base p1 p2)) (PySem.W.mg_of X G ax7) kx7 bx7
  have Cx7 := Cx7_5
  have Fx8 := fun_mk (st := s_graph_of) lx8 cx8 kx8
  have bx8 := Fx8.binds (ps := ["paragraphs"]) fun _ _ _ _ _ _ us hl => match us, hl with | [_], _ => rfl
  have Cx8 : ∀ base : Heap, K.In base → base.Ns mainGlobals mg → WP.Callee l.prog w K mg base CX0 7 "graph_of" ["paragraphs"] (sp_graph_of K mg) := fun base p1 p2 => WP.Callee.mk' (ok_graph_of Fx8 B (Cx7 base p1 p2)) (PySem.W.mg_of X G ax8) kx8 bx8
  have Fx9 := fun_mk (st := s__law_perform) lx9 cx9 kx9
  have bx9 := Fx9.binds (ps := ["draws", "names", "found"]) fun _ _ _ _ _ _ us hl => match us, hl with | [_, _, _], _ => rfl
  have Cx9 : ∀ base : Heap, K.In base → base.Ns mainGlobals mg → WP.Callee l.prog w K mg base CX0 2 "_law_perform" ["draws", "names", "found"] (sp__law_perform K mg) := fun base p1 p2 => WP.Callee.mk' (ok__law_perform Fx9 B (Cx1 base p1 p2)) (PySem.W.mg_of X G ax9) kx9 bx9
  have Fx10 := fun_mk (st := s__law_statement) lx10 cx10 kx10
  have bx10 := Fx10.binds (ps := ["draws", "names", "found", "levels"]) fun _ _ _ _ _ _ us hl => match us, hl with | [_, _, _, _], _ => rfl
  have Fx11 := fun_mk (st := s__law_block) lx11 cx11 kx11
  have bx11 := Fx11.binds (ps := ["draws", "names", "found", "levels", "least"]) fun _ _ _ _ _ _ us hl => match us, hl with | [_, _, _, _, _], _ => rfl
  have Cx10_0 : ∀ base : Heap, K.In base → base.Ns mainGlobals mg → WP.Callee l.prog w K mg base CX0 3 "_law_statement" ["draws", "names", "found", "levels"] (sp__law_statement K mg 0) := fun base p1 p2 => WP.Callee.mk' ⟨fun _ _ _ _ h => (h : False).elim, fun _ _ _ _ _ _ _ _ _ _ _ _ _ h => (h : False).elim⟩ (PySem.W.mg_of X G ax10) kx10 bx10
  have Cx11_0 : ∀ base : Heap, K.In base → base.Ns mainGlobals mg → WP.Callee l.prog w K mg base CX0 4 "_law_block" ["draws", "names", "found", "levels", "least"] (sp__law_block K mg 0) := fun base p1 p2 => WP.Callee.mk' ⟨fun _ _ _ _ h => (h : False).elim, fun _ _ _ _ _ _ _ _ _ _ _ _ _ h => (h : False).elim⟩ (PySem.W.mg_of X G ax11) kx11 bx11
  have Cx10_1 : ∀ base : Heap, K.In base → base.Ns mainGlobals mg → WP.Callee l.prog w K mg base CX0 5 "_law_statement" ["draws", "names", "found", "levels"] (sp__law_statement K mg 1) := fun base p1 p2 => WP.Callee.mk' (ok__law_statement (nn := 0) Fx10 B (Cx1 base p1 p2) (Cx9 base p1 p2) (Cx11_0 base p1 p2)) (PySem.W.mg_of X G ax10) kx10 bx10
  have Cx11_1 : ∀ base : Heap, K.In base → base.Ns mainGlobals mg → WP.Callee l.prog w K mg base CX0 6 "_law_block" ["draws", "names", "found", "levels", "least"] (sp__law_block K mg 1) := fun base p1 p2 => WP.Callee.mk' (ok__law_block (nn := 0) Fx11 B (Cx1 base p1 p2) (Cx10_1 base p1 p2)) (PySem.W.mg_of X G ax11) kx11 bx11
  have Cx10_2 : ∀ base : Heap, K.In base → base.Ns mainGlobals mg → WP.Callee l.prog w K mg base CX0 7 "_law_statement" ["draws", "names", "found", "levels"] (sp__law_statement K mg 2) := fun base p1 p2 => WP.Callee.mk' (ok__law_statement (nn := 1) Fx10 B (Cx1 base p1 p2) (Cx9 base p1 p2) (Cx11_1 base p1 p2)) (PySem.W.mg_of X G ax10) kx10 bx10
  have Cx11_2 : ∀ base : Heap, K.In base → base.Ns mainGlobals mg → WP.Callee l.prog w K mg base CX0 8 "_law_block" ["draws", "names", "found", "levels", "least"] (sp__law_block K mg 2) := fun base p1 p2 => WP.Callee.mk' (ok__law_block (nn := 1) Fx11 B (Cx1 base p1 p2) (Cx10_2 base p1 p2)) (PySem.W.mg_of X G ax11) kx11 bx11
  have Cx10_3 : ∀ base : Heap, K.In base → base.Ns mainGlobals mg → WP.Callee l.prog w K mg base CX0 9 "_law_statement" ["draws", "names", "found", "levels"] (sp__law_statement K mg 3) := fun base p1 p2 => WP.Callee.mk' (ok__law_statement (nn := 2) Fx10 B (Cx1 base p1 p2) (Cx9 base p1 p2) (Cx11_2 base p1 p2)) (PySem.W.mg_of X G ax10) kx10 bx10
  have Cx11_3 : ∀ base : Heap, K.In base → base.Ns mainGlobals mg → WP.Callee l.prog w K mg base CX0 10 "_law_block" ["draws", "names", "found", "levels", "least"] (sp__law_block K mg 3) := fun base p1 p2 => WP.Callee.mk' (ok__law_block (nn := 2) Fx11 B (Cx1 base p1 p2) (Cx10_3 base p1 p2)) (PySem.W.mg_of X G ax11) kx11 bx11
  have Cx10_4 : ∀ base : Heap, K.In base → base.Ns mainGlobals mg → WP.Callee l.prog w K mg base CX0 11 "_law_statement" ["draws", "names", "found", "levels"] (sp__law_statement K mg 4) := fun base p1 p2 => WP.Callee.mk' (ok__law_statement (nn := 3) Fx10 B (Cx1 base p1 p2) (Cx9 base p1 p2) (Cx11_3 base p1 p2)) (PySem.W.mg_of X G ax10) kx10 bx10
  have Cx11_4 : ∀ base : Heap, K.In base → base.Ns mainGlobals mg → WP.Callee l.prog w K mg base CX0 12 "_law_block" ["draws", "names", "found", "levels", "least"] (sp__law_block K mg 4) := fun base p1 p2 => WP.Callee.mk' (ok__law_block (nn := 3) Fx11 B (Cx1 base p1 p2) (Cx10_4 base p1 p2)) (PySem.W.mg_of X G ax11) kx11 bx11
  have Cx10 := Cx10_4
  have Cx11 := Cx11_4
  have Fx12 := fun_mk (st := s_law) lx12 cx12 kx12
  exact ⟨PySem.W.fnOf "law" "law" (defArgs s_law) (defBody s_law) (defScope s_law) .none kVx12 dcx12 pmx12 anx12 cdx12 ctx12, fun s v => .of_eq rfl, fun base p1 p2 => ok_law Fx12 B (Cx0 base p1 p2) (Cx4 base p1 p2) (Cx5 base p1 p2) (Cx1 base p1 p2) (Cx7 base p1 p2) (Cx8 base p1 p2) (Cx10 base p1 p2)⟩
theorem walk {l : PySem.W.OpenLaw} {q : Program} {loose : List Str} {XP : (Str → Option Value) → Heap → Prop} {YP : World → Heap → Prop} {d : DefRec} {K : Params → PySem.W.Frag} (hn : l.most = some 63) (hdf : d.params.defaults = [])
    (hY : ∀ (w : World) (h : Heap), YP w h → (K w.params).In h)
    (F : ∀ (w : World) (mg : Str → Option Value) (fa : Addr) (h : Heap), (K w.params).In h → h.Ns mainGlobals mg → mg d.name = some (.ref fa) →
      ∃ fd : FuncData, (∀ (s : Shared) (u : Value), BindsTo s fd ⟨[u], []⟩ [("script", u)]) ∧ ∀ base : Heap, (K w.params).In base → base.Ns mainGlobals mg → FnOk l.prog w (K w.params) mg base CX0 12 fa fd ["script"] (sp_law (K w.params))) :
    PySem.W.WalkO q loose XP YP l.row.toRowW d [] (fun f vs => PySem.call f vs) :=
  L2.walk_of (n := 63) (k := 12) (x := "script") (CX := fun _ => CX0) (sp := fun w => sp_law (K w.params)) hn (by decide) hdf ⟨rfl, by decide, by decide⟩ hY F (fun _ _ a ns hl _ hS => ⟨a, ns, rfl, hS, hl, fun _ => rfl⟩) fun _ _ _ _ _ z => z
end D
open PySem PySem.W PyProof.Rows
set_option maxRecDepth 100000 in
set_option maxHeartbeats 0 in
theorem PySem.Challenge.cw_cardwright_k40_performed_paragraphs_holds : PySem.Challenge.rw_cardwright_k40_performed_paragraphs.Holds := by
  w_on; o_law; k_head; (case hw => w_witness2)
  k_fill
  refine D.walk (l := PySem.Challenge.rw_cardwright_k40_performed_paragraphs) rfl rfl (fun w h Y => PySem.W.kIn_of Y) ?F
  case F =>
    intro w mg fa h KX G hmg
    refine' D.all_mk KX G hmg ?ax0 ?lx0 ?cx0 ?kx0 ?ax1 ?lx1 ?cx1 ?kx1 ?ax2 ?lx2 ?cx2 ?kx2 ?ax3 ?lx3 ?cx3 ?kx3 ?ax4 ?lx4 ?cx4 ?kx4 ?ax5 ?lx5 ?cx5 ?kx5 ?ax6 ?lx6 ?cx6 ?kx6 ?ax7 ?lx7 ?cx7 ?kx7 ?ax8 ?lx8 ?cx8 ?kx8 ?ax9 ?lx9 ?cx9 ?kx9 ?ax10 ?lx10 ?cx10 ?kx10 ?ax11 ?lx11 ?cx11 ?kx11 ?ax12 ?lx12 ?cx12 ?kx12 ?z_bool ?z_enumerate ?z_int ?z_isinstance ?z_len ?z_list ?z_max ?z_range ?z_sorted ?z_str ?z_tuple ?z_zip ?g_INNER_PARTS ?h_INNER_PARTS ?g_STATEMENT_PARTS ?h_STATEMENT_PARTS ?kl_STATEMENT_PARTS ?e_STATEMENT_PARTS_0 ?h_STATEMENT_PARTS_0 ?e_STATEMENT_PARTS_1 ?h_STATEMENT_PARTS_1 ?e_STATEMENT_PARTS_2 ?h_STATEMENT_PARTS_2 ?e_STATEMENT_PARTS_3 ?h_STATEMENT_PARTS_3 ?e_STATEMENT_PARTS_4 ?h_STATEMENT_PARTS_4 ?e_STATEMENT_PARTS_5 ?h_STATEMENT_PARTS_5 ?e_STATEMENT_PARTS_6 ?h_STATEMENT_PARTS_6 ?e_STATEMENT_PARTS_7 ?h_STATEMENT_PARTS_7 ?e_STATEMENT_PARTS_8 ?h_STATEMENT_PARTS_8 ?e_STATEMENT_PARTS_9 ?h_STATEMENT_PARTS_9 ?e_STATEMENT_PARTS_10 ?h_STATEMENT_PARTS_10
    (case ax0 => k_is); (case lx0 => k_is); (case cx0 => k_is); (case kx0 => k_is); (case ax1 => k_is); (case lx1 => k_is)
    (case cx1 => k_is); (case kx1 => k_is); (case ax2 => k_is); (case lx2 => k_is); (case cx2 => k_is); (case kx2 => k_is)
    (case ax3 => k_is); (case lx3 => k_is); (case cx3 => k_is); (case kx3 => k_is); (case ax4 => k_is); (case lx4 => k_is)
    (case cx4 => k_is); (case kx4 => k_is); (case ax5 => k_is); (case lx5 => k_is); (case cx5 => k_is); (case kx5 => k_is)
    (case ax6 => k_is); (case lx6 => k_is); (case cx6 => k_is); (case kx6 => k_is); (case ax7 => k_is); (case lx7 => k_is)
    (case cx7 => k_is); (case kx7 => k_is); (case ax8 => k_is); (case lx8 => k_is); (case cx8 => k_is); (case kx8 => k_is)
    (case ax9 => k_is); (case lx9 => k_is); (case cx9 => k_is); (case kx9 => k_is); (case ax10 => k_is); (case lx10 => k_is)
    (case cx10 => k_is); (case kx10 => k_is); (case ax11 => k_is); (case lx11 => k_is); (case cx11 => k_is); (case kx11 => k_is)
    (case ax12 => k_is); (case lx12 => k_is); (case cx12 => k_is); (case kx12 => k_is); (case z_bool => k_is); (case z_enumerate => k_is)
    (case z_int => k_is); (case z_isinstance => k_is); (case z_len => k_is); (case z_list => k_is); (case z_max => k_is); (case z_range => k_is)
    (case z_sorted => k_is); (case z_str => k_is); (case z_tuple => k_is); (case z_zip => k_is); (case g_INNER_PARTS => k_is); (case h_INNER_PARTS => k_is)
    (case g_STATEMENT_PARTS => k_is); (case h_STATEMENT_PARTS => k_is); (case kl_STATEMENT_PARTS => exact ⟨⟨_, _, rfl, rfl⟩, ⟨⟨_, _, rfl, rfl⟩, ⟨⟨_, _, rfl, rfl⟩, ⟨⟨_, _, rfl, rfl⟩, ⟨⟨_, _, rfl, rfl⟩, ⟨⟨_, _, rfl, rfl⟩, ⟨⟨_, _, rfl, rfl⟩, ⟨⟨_, _, rfl, rfl⟩, ⟨⟨_, _, rfl, rfl⟩, ⟨⟨_, _, rfl, rfl⟩, ⟨⟨_, _, rfl, rfl⟩, True.intro⟩⟩⟩⟩⟩⟩⟩⟩⟩⟩⟩); (case e_STATEMENT_PARTS_0 => k_is); (case h_STATEMENT_PARTS_0 => k_is); (case e_STATEMENT_PARTS_1 => k_is)
    (case h_STATEMENT_PARTS_1 => k_is); (case e_STATEMENT_PARTS_2 => k_is); (case h_STATEMENT_PARTS_2 => k_is); (case e_STATEMENT_PARTS_3 => k_is); (case h_STATEMENT_PARTS_3 => k_is); (case e_STATEMENT_PARTS_4 => k_is)
    (case h_STATEMENT_PARTS_4 => k_is); (case e_STATEMENT_PARTS_5 => k_is); (case h_STATEMENT_PARTS_5 => k_is); (case e_STATEMENT_PARTS_6 => k_is); (case h_STATEMENT_PARTS_6 => k_is); (case e_STATEMENT_PARTS_7 => k_is)
    (case h_STATEMENT_PARTS_7 => k_is); (case e_STATEMENT_PARTS_8 => k_is); (case h_STATEMENT_PARTS_8 => k_is); (case e_STATEMENT_PARTS_9 => k_is); (case h_STATEMENT_PARTS_9 => k_is); (case e_STATEMENT_PARTS_10 => k_is)
    (case h_STATEMENT_PARTS_10 => k_is)
#print axioms PySem.Challenge.cw_cardwright_k40_performed_paragraphs_holds
