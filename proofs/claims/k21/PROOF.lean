import PyProof.Rows.All
import Wide.All
import OpenK.AllK
import Wide.FinOn
import HandS.ForMost
import HandS.Wide
import HandS.IsInst
import HandS.Evl
import HandS.ForExc
import HandS.ExcIs
import HandS.WideBits
import HandS.AnyAll
import HandS.Codes
import HandS.Comp
import HandS.Dict
import HandS.DictComp
import HandS.EndTab
import HandS.Evl
import HandS.ExcField
import HandS.ExcInit
import HandS.ExcValue
import HandS.Iter
import HandS.ListItems
import HandS.MapJoin
import HandS.MapObj
import HandS.More
import HandS.ReplaceDef
import HandS.ReplaceLit
import HandS.Rev
import HandS.RevTup
import HandS.SortInts
import HandS.Star
import HandS.StrMore
import HandS.Style
import HandS.Text
import HandS.TupAny
import HandS.Walk
import HandS.Zip
import KE.GoesEnumKw
import KE.KDictList
import KE.KDictSum
import PySem.Challenge.RW_cardwright_k21_data_that_stands_wrong
set_option Elab.async false
set_option linter.all false
set_option maxRecDepth 100000
set_option maxHeartbeats 4000000
namespace WP
open PySem PySem.Spec PyProof.Rows L2

/-! ### a def that may be called -/
structure Callee (P : Program) (w : World) (K : PySem.W.Frag) (mg : Str → Option Value) (base : Heap) (CX : CXT) (lv : Nat) (nm : Str) (ps : List Str) (sp : Sp) : Prop where
  ex : ∃ (f : Addr) (fd : FuncData), FnOk P w K mg base CX lv f fd ps sp ∧ mg nm = some (.ref f) ∧ PySem.W.keepIn K (.ref f) = true ∧ Binds K fd ps []
theorem Callee.mk' {P : Program} {w : World} {K : PySem.W.Frag} {mg : Str → Option Value} {base : Heap} {CX : CXT} {lv : Nat} {nm : Str} {ps : List Str} {sp : Sp} {f : Addr} {fd : FuncData}
    (h : FnOk P w K mg base CX lv f fd ps sp) (m : mg nm = some (.ref f)) (k : PySem.W.keepIn K (.ref f) = true) (b : Binds K fd ps []) : Callee P w K mg base CX lv nm ps sp := ⟨⟨f, fd, h, m, k, b⟩⟩
section
variable {X : Cx} {CX : CXT} {k j : Nat} {ps : List Str} {sp : Sp} {E : XK} {x : Str} {p pos : Pos} {e : Expr} {es : List Expr} {t : TA}
theorem pe_callC (C : Callee X.prog X.w X.K X.mg X.base CX k x ps sp) (hr : Room j X.A) (hg : Gl X x) (hx : Passes CX X E) (ha : PA X (e :: es) t) (hl : k ≤ j := by decide)
    (hdb : (x == ("__debug__" : Str)) = false := by decide) (he : starEach (e :: es) X.env = (false, eval e X.env) :: starEach es X.env := by rfl) (hpl : (backTo pos (starEach es X.env)).any (·.1) = false := by rfl) :
    PE X (.Call (.Name x p) (e :: es) [] pos) (tCall sp [] E t) := by
  obtain ⟨f, fd, F, hm, hk, hb⟩ := C.ex
  exact pe_call F (hr.mono hl) hg hm hk hb .nil hx ha hdb he hpl
theorem pe_callC0 (C : Callee X.prog X.w X.K X.mg X.base CX k x ps sp) (hr : Room j X.A) (hg : Gl X x) (hx : Passes CX X E) (hl : k ≤ j := by decide)
    (hdb : (x == ("__debug__" : Str)) = false := by decide) : PE X (.Call (.Name x p) [] [] pos) (tCall sp [] E tNil) := by
  obtain ⟨f, fd, F, hm, hk, hb⟩ := C.ex
  exact pe_call0 F (hr.mono hl) hg hm hk hb .nil hx hdb
end

/-! ### readings, a step at a time -/
section
variable {σ : L2.St} {H : Hp} {D : Ends} {t u : TS} {te ta tb : TE} {tt tu : TT} {g : TG} {Q : VK} {QB : Bool → Hp → Prop} {QA : List V → Hp → Prop} {r : R2} {i j : Int} {n : Nat} {v x y : V}
theorem seq (h : t { D with nx := u D } σ H) : tSeq t u D σ H := h
theorem asg (h : te σ H fun x H1 => g x σ H1 D.nx) : tAsg te g D σ H := h
theorem name {QS : L2.St → Hp → Prop} (h : QS (σ.set n (some v)) H) : gName n v σ H QS := h
theorem var (e : σ[n]? = some (some v)) (h : Q v H) : tVar n σ H Q := ⟨v, e, h⟩
theorem con (h : Q v H) : tC v σ H Q := h
theorem op (h : ta σ H fun x H1 => tb σ H1 fun y H2 => r x y H2 Q) : tOp r ta tb σ H Q := h
theorem un {ru : V → Hp → VK → Prop} (h : ta σ H fun x H1 => ru x H1 Q) : tUn ru ta σ H Q := h
theorem rU_ {g : Int → V} (h : Q (g i) H) : rU g (.int i) H Q := ⟨i, rfl, h⟩
theorem i0 {g : Int → Int → V} (h : Q (g i j) H) : rI0 g (.int i) (.int j) H Q := ⟨i, j, rfl, rfl, h⟩
theorem iC {C : Int → Int → Prop} {g : Int → Int → V} (c : C i j) (h : Q (g i j) H) : rI C g (.int i) (.int j) H Q := ⟨i, j, rfl, rfl, c, h⟩
theorem eqS (s : scal x y = true) (h : Q (.bl (decide (x = y))) H) : rEq x y H Q := ⟨s, h⟩
theorem neS (s : scal x y = true) (h : Q (.bl (!decide (x = y))) H) : rNe x y H Q := ⟨s, h⟩
theorem ifS (h : tt σ H fun b H1 => if b = true then t D σ H1 else u D σ H1) : tIfS tt t u D σ H := h
theorem ifE (h : tt σ H fun b H1 => if b = true then ta σ H1 Q else tb σ H1 Q) : tIf tt ta tb σ H Q := h
theorem test (h : te σ H fun x H1 => ∃ k, x = .bl k ∧ QB k H1) : tTest te σ H QB := h
theorem bt (h : te σ H fun x H1 => ∃ k, x = .bl k ∧ QB k H1) : tB te σ H QB := h
theorem isb {b : Bool} (h : QB b H) : ∃ k, V.bl b = V.bl k ∧ QB k H := ⟨b, rfl, h⟩
theorem ret (h : te σ H D.rt) : tRet te D σ H := h
theorem retN (h : D.rt .non H) : tRetN D σ H := h
theorem drop (h : te σ H fun _ H1 => D.nx σ H1) : tDrop te D σ H := h
theorem next (h : D.nx σ H) : tNext D σ H := h
theorem brk (h : D.bk σ H) : tBreak D σ H := h
theorem cont (h : D.ct σ H) : tCont D σ H := h
theorem cb {rc : List V → Hp → VK → Prop} {a : TA} (h : a σ H fun vs H1 => rc vs H1 Q) : tCB rc a σ H Q := h
theorem call {sp : Sp} {E : XK} {a : TA} (h : a σ H fun vs H1 => sp (vs ++ []) H1 Q E) : tCall sp [] E a σ H Q := h
theorem cons {a : TA} (h : te σ H fun x H1 => a σ H1 fun xs H2 => QA (x :: xs) H2) : tCons te a σ H QA := h
theorem nil (h : QA [] H) : tNil σ H QA := h
theorem tup {a : TA} (h : a σ H fun xs H1 => xs.length ≤ sizeLine ∧ ∀ p, H1 p = none → Q (.ref p) (upd H1 p (.tup xs))) : tTup a σ H Q := h
theorem lst {a : TA} (h : a σ H fun xs H1 => xs.length ≤ sizeLine ∧ ∀ p, H1 p = none → Q (.ref p) (upd H1 p (.lst xs))) : tLst a σ H Q := h
theorem notT (h : tt σ H fun c H1 => QB (!c) H1) : tNot tt σ H QB := h
theorem andT (h : tt σ H fun c H1 => if c = true then tu σ H1 QB else QB false H1) : tAnd tt tu σ H QB := h
theorem orT (h : tt σ H fun c H1 => if c = true then QB true H1 else tu σ H1 QB) : tOr tt tu σ H QB := h
theorem andV (h : ta σ H fun x H1 => ∃ c, x = .bl c ∧ if c = true then tb σ H1 Q else Q (.bl false) H1) : tAndV ta tb σ H Q := h
theorem orV (h : ta σ H fun x H1 => ∃ c, x = .bl c ∧ if c = true then Q (.bl true) H1 else tb σ H1 Q) : tOrV ta tb σ H Q := h
theorem notV (h : ta σ H fun x H1 => ∃ c, x = .bl c ∧ Q (.bl (!c)) H1) : tNotV ta σ H Q := h
theorem isbV {b : Bool} {R : Bool → Prop} (h : R b) : ∃ k, V.bl b = V.bl k ∧ R k := ⟨b, rfl, h⟩
theorem sl {r : V → Option Int → Option Int → Hp → VK → Prop} {tl th : TO} (h : te σ H fun x H1 => tl σ H1 fun l H2 => th σ H2 fun u H3 => r x l u H3 Q) : tSl r te tl th σ H Q := h
theorem noPart {QO : Option Int → Hp → Prop} (h : QO none H) : tNoPart σ H QO := h
theorem part {QO : Option Int → Hp → Prop} (h : te σ H fun x H1 => ∃ i, x = .int i ∧ QO (some i) H1) : tPart te σ H QO := h
theorem isi {R : Int → Prop} (h : R i) : ∃ k, V.int i = V.int k ∧ R k := ⟨i, rfl, h⟩
/-- tests -/
theorem br {c A B : Prop} [Decidable c] (h1 : c → A) (h2 : ¬ c → B) : if decide c = true then A else B := by
  by_cases h : c
  · rw [decide_eq_true h, if_pos rfl]; exact h1 h
  · rw [decide_eq_false h, if_neg Bool.false_ne_true]; exact h2 h
theorem brN {c A B : Prop} [Decidable c] (h1 : ¬ c → A) (h2 : c → B) : if (!decide c) = true then A else B := by
  by_cases h : c
  · rw [decide_eq_true h]; exact iteF (h2 h)
  · rw [decide_eq_false h]; exact iteT (h1 h)
theorem brT {b : Bool} {A B : Prop} (e : b = true) (h : A) : if b = true then A else B := by rw [if_pos e]; exact h
theorem brF {b : Bool} {A B : Prop} (e : b = false) (h : B) : if b = true then A else B := by rw [if_neg (by rw [e]; exact Bool.false_ne_true)]; exact h
theorem brB {b : Bool} {A B : Prop} (h1 : b = true → A) (h2 : b = false → B) : if b = true then A else B := by
  cases b
  · exact iteF (h2 rfl)
  · exact iteT (h1 rfl)
theorem dec_int {i j : Int} : decide (V.int i = V.int j) = decide (i = j) := by
  by_cases h : i = j
  · rw [decide_eq_true h, decide_eq_true (congrArg V.int h)]
  · rw [decide_eq_false h, decide_eq_false fun e => h (V.int.inj e)]
theorem dec_str {i j : Str} : decide (V.str i = V.str j) = decide (i = j) := by
  by_cases h : i = j
  · rw [decide_eq_true h, decide_eq_true (congrArg V.str h)]
  · rw [decide_eq_false h, decide_eq_false fun e => h (V.str.inj e)]
theorem dec_bl {i j : Bool} : decide (V.bl i = V.bl j) = decide (i = j) := by
  by_cases h : i = j
  · rw [decide_eq_true h, decide_eq_true (congrArg V.bl h)]
  · rw [decide_eq_false h, decide_eq_false fun e => h (V.bl.inj e)]
theorem eqI (h : Q (.bl (decide (i = j))) H) : rEq (.int i) (.int j) H Q := ⟨rfl, by rw [dec_int]; exact h⟩
theorem neI (h : Q (.bl (!decide (i = j))) H) : rNe (.int i) (.int j) H Q := ⟨rfl, by rw [dec_int]; exact h⟩
theorem eqT {a b : Str} (h : Q (.bl (decide (a = b))) H) : rEq (.str a) (.str b) H Q := ⟨rfl, by rw [dec_str]; exact h⟩
theorem neT {a b : Str} (h : Q (.bl (!decide (a = b))) H) : rNe (.str a) (.str b) H Q := ⟨rfl, by rw [dec_str]; exact h⟩
theorem eqB {a b : Bool} (h : Q (.bl (decide (a = b))) H) : rEq (.bl a) (.bl b) H Q := ⟨rfl, by rw [dec_bl]; exact h⟩
theorem neB {a b : Bool} (h : Q (.bl (!decide (a = b))) H) : rNe (.bl a) (.bl b) H Q := ⟨rfl, by rw [dec_bl]; exact h⟩
end
/-! ### numbers of a known number of bits -/
theorem sz2 : (2 : Nat) ≤ sizeLine := by rw [sizeLine_eq]; decide
theorem sz {n : Nat} (h : n ≤ 1000000) : n ≤ sizeLine := by rw [sizeLine_eq]; omega
end WP
namespace WP
open PySem PySem.Spec PyProof.Rows L2
section
variable {X : Cx} {x : Str} {v : V} {pos : Pos}
theorem pe_const (hg : Gl X x) (h : ∃ u, X.mg x = some u ∧ RelV v u) (hd : (x == ("__debug__" : Str)) = false := by decide) : PE X (.Name x pos) (tC v) := by
  obtain ⟨u, hm, r⟩ := h
  exact pe_glob hg hm r hd
end
/-- a number of at most a bits -/
def Bt (i : Int) (a : Nat) : Prop := i.natAbs < 2 ^ a
theorem Bt.mono {i : Int} {a b : Nat} (h : Bt i a) (l : a ≤ b) : Bt i b := Nat.lt_of_lt_of_le h (Nat.pow_le_pow_right (by decide) l)
theorem Bt.mul {i j : Int} {a b : Nat} (h : Bt i a) (k : Bt j b) : Bt (i * j) (a + b) := wide_lt h k
theorem Bt.neg {i : Int} {a : Nat} (h : Bt i a) : Bt (-i) a := by unfold Bt at *; rw [Int.natAbs_neg]; exact h
theorem Bt.add {i j : Int} {a : Nat} (h : Bt i a) (k : Bt j a) : Bt (i + j) (a + 1) := by
  unfold Bt at *
  have := Int.natAbs_add_le i j
  rw [Nat.pow_succ]; omega
theorem Bt.sub {i j : Int} {a : Nat} (h : Bt i a) (k : Bt j a) : Bt (i - j) (a + 1) := by
  rw [Int.sub_eq_add_neg]; exact h.add k.neg
theorem Bt.le {i j : Int} {a : Nat} (h : Bt i a) (k : j.natAbs ≤ i.natAbs) : Bt j a := Nat.lt_of_le_of_lt k h
theorem Bt.ten (n : Nat) : Bt (10 ^ n) (4 * n + 1) := by
  unfold Bt
  have e : ((10 : Int) ^ n).natAbs = 10 ^ n := by rw [Int.natAbs_pow]; rfl
  rw [e]
  have h : 10 ^ n ≤ 16 ^ n := Nat.pow_le_pow_left (by decide) n
  have h2 : (16 : Nat) ^ n = 2 ^ (4 * n) := by rw [show (16 : Nat) = 2 ^ 4 from rfl, ← Nat.pow_mul]
  rw [h2] at h
  rw [Nat.pow_succ]
  have : 0 < 2 ^ (4 * n) := Nat.pow_pos (by decide)
  omega
theorem Bt.w {i j : Int} {a b : Nat} (h : Bt i a) (k : Bt j b) (l : a + b ≤ 999998 := by omega) : CMulW i j :=
  wide_mul (h.mono (Nat.le_succ a)) (k.mono (Nat.le_succ b)) (Nat.succ_pos _) (Nat.succ_pos _) (by omega)
theorem Bt.d {j : Int} {b : Nat} (h : 0 < j) (k : Bt j b) (l : b ≤ 8999 := by omega) : CDivW 0 j := wide_div h (k.mono (Nat.le_succ b)) (Nat.succ_pos _) (by omega)
theorem Bt.d' {i j : Int} {b : Nat} (h : 0 < j) (k : Bt j b) (l : b ≤ 8999 := by omega) : CDivW i j := Bt.d h k l
theorem ten_pos (n : Nat) : (0 : Int) < 10 ^ n := Int.pow_pos (by decide)
end WP
namespace WP
open PySem PySem.Spec PyProof.Rows L2
/-! ### what comes back -/
def RetT (xs : List V) (H : Hp) (Q : VK) : Prop := ∀ p H', Same H H' → H' p = some (.tup xs) → Q (.ref p) H'
def RetL (xs : List V) (H : Hp) (Q : VK) : Prop := ∀ p H', H p = none → Same H H' → H' p = some (.lst xs) → Q (.ref p) H'
def RetV (v : V) (H : Hp) (Q : VK) : Prop := ∀ H', Same H H' → Q v H'
theorem same_new {H : Hp} {p : Addr} {o : HO} (h : H p = none) : Same H (upd H p o) := fun b u e => by
  rw [upd_ne (ne_of_none e h)]; exact e
theorem same_mut {H H' : Hp} {p : Addr} {o : HO} (e : Same H H') (h : H p = none) : Same H (upd H' p o) := fun a u ha => by
  rw [upd_ne (ne_of_none ha h)]; exact e a u ha
theorem sqt {K : PySem.W.Frag} {H H' : Hp} {a : Addr} {xs : List V} (e : Same H H') (h : SqT K H a xs) : SqT K H' a xs := by
  rcases h with (h | ⟨o, h⟩) | h
  · exact .inl (.inl (e _ _ h))
  · exact .inl (.inr ⟨o, e _ _ h⟩)
  · exact .inr h
theorem RetT.new {xs : List V} {H H' : Hp} {Q : VK} (k : RetT xs H Q) (e : Same H H') : ∀ p, H' p = none → Q (.ref p) (upd H' p (.tup xs)) := fun p hp =>
  k p _ (e.trans (same_new hp)) upd_same
theorem RetL.new {xs : List V} {H H' : Hp} {Q : VK} (k : RetL xs H Q) (e : Same H H') : ∀ p, H' p = none → Q (.ref p) (upd H' p (.lst xs)) := fun p hp =>
  k p _ (e.free hp) (e.trans (same_new hp)) upd_same
/-- a decimal's two parts -/
abbrev dv (u : Int) (s : Nat) : List V := [.int u, .int (s : Int)]
theorem at0 {α : Type} {x : α} {xs : List α} : atI (x :: xs) (0 : Int) = some x := atI_nat (j := 0) rfl
theorem at1 {α : Type} {x y : α} {xs : List α} : atI (x :: y :: xs) (1 : Int) = some y := atI_nat (j := 1) rfl
theorem at2 {α : Type} {x y z : α} {xs : List α} : atI (x :: y :: z :: xs) (2 : Int) = some z := atI_nat (j := 2) rfl
theorem at3 {α : Type} {x y z u : α} {xs : List α} : atI (x :: y :: z :: u :: xs) (3 : Int) = some u := atI_nat (j := 3) rfl
theorem at4 {α : Type} {x y z u v : α} {xs : List α} : atI (x :: y :: z :: u :: v :: xs) (4 : Int) = some v := atI_nat (j := 4) rfl
section
variable {K : PySem.W.Frag} {H : Hp} {p : Addr} {xs : List V} {v : V} {i : Int} {Q : VK}
theorem ixT (h : SqT K H p xs) (a : atI xs i = some v) (q : Q v H) : rIxT K (.ref p) (.int i) H Q := ⟨p, xs, i, v, rfl, rfl, h, a, q⟩
theorem ixL (h : SqL K H p xs) (a : atI xs i = some v) (q : Q v H) : rIxL K (.ref p) (.int i) H Q := ⟨p, xs, i, v, rfl, rfl, h, a, q⟩
theorem unT {n : Nat} {t : TGs} {σ : L2.St} {QS : L2.St → Hp → Prop} (h : SqT K H p xs) (l : xs.length = n) (q : t xs σ H QS) : gTup K n t (.ref p) σ H QS := ⟨p, xs, rfl, h, l, q⟩
theorem gsCons {g : TG} {gs : TGs} {x : V} {r : List V} {σ : L2.St} {QS : L2.St → Hp → Prop} (q : g x σ H fun σ' H' => gs r σ' H' QS) : gCons g gs (x :: r) σ H QS := ⟨x, r, rfl, q⟩
theorem gsNil {σ : L2.St} {QS : L2.St → Hp → Prop} (q : QS σ H) : gNil [] σ H QS := ⟨rfl, q⟩
end
end WP
namespace WP
open PySem PySem.Spec PyProof.Rows L2
section
variable {K : PySem.W.Frag} {H : Hp} {p : Addr} {xs : List V} {v x : V} {i : Int} {Q : VK} {σ : L2.St} {D : Ends}
theorem forl {wi : TI} {g : TG} {tb : TS} (h : wi σ H fun J H1 => ∃ W : Nat → Nat → L2.St → Hp → Prop, (∃ m, W 0 m σ H1) ∧ ∀ i m σ H, W i m σ H →
  (J.stop i H ∧ D.nx σ H) ∨ (J.go i H ∧ ∃ N : L2.St → Hp → Prop, (∀ σ' H', N σ' H' → ∃ m', m' < m ∧ W (i + 1) m' σ' H') ∧ ∀ x H', J.yld i H x H' → g x σ H' fun σ2 H2 => tb { D with nx := N, ct := N, bk := D.nx } σ2 H2)) : tFor wi g tb D σ H := h
theorem rng1 {ta : TA} {R : It → Hp → Prop} (h : ta σ H fun vs H1 => ∃ j : Int, vs = [.int j] ∧ -(2 ^ 62) ≤ j ∧ j < 2 ^ 62 ∧ R (Itr 0 j.toNat) H1) : iRng1 ta σ H R := h
theorem rng2 {ta : TA} {R : It → Hp → Prop} (h : ta σ H fun vs H1 => ∃ i j : Int, vs = [.int i, .int j] ∧ (-(2 ^ 62) ≤ i ∧ i < 2 ^ 62 ∧ -(2 ^ 62) ≤ j ∧ j < 2 ^ 62) ∧ R (Itr i (j - i).toNat) H1) : iRng2 ta σ H R := h
theorem walkL {tl : TE} {R : It → Hp → Prop} (h : tl σ H fun x H1 => ∃ a, x = .ref a ∧ (∃ xs, SqL K H1 a xs) ∧ R (Itl K a) H1) : iList K tl σ H R := h
theorem walkT {tl : TE} {R : It → Hp → Prop} (h : tl σ H fun x H1 => ∃ a, x = .ref a ∧ (∃ xs, SqT K H1 a xs) ∧ R (Itt K a) H1) : iTup K tl σ H R := h
theorem isT {t n : String} {b : Bool} (ty : TyX K H x (.type t)) (q : Q (.bl b) H) (hb : kitB t n = some b := by decide +kernel) : rIsi K [x, .ty n] H Q :=
  ⟨x, .ty n, _, _, b, rfl, ClsV.ty n, ty, kit_ty hb, q⟩
theorem isY {t n : String} (ty : TyX K H x (.type t)) (q : Q (.bl true) H) (hb : kitB t n = some true := by decide +kernel) : rIsi K [x, .ty n] H Q := isT ty q hb
theorem isN {t n : String} (ty : TyX K H x (.type t)) (q : Q (.bl false) H) (hb : kitB t n = some false := by decide +kernel) : rIsi K [x, .ty n] H Q := isT ty q hb
def rLen (K : PySem.W.Frag) : List V → Hp → VK → Prop := fun xs H Q => ∃ x n, xs = [x] ∧ LenV K x H n ∧ Q (.int (n : Nat)) H
theorem c_len {X : Cx} : CallR X (.builtin "len") (rLen X.K) := call_len
theorem lenL (h : SqL K H p xs) (q : Q (.int (xs.length : Int)) H) : rLen K [V.ref p] H Q := ⟨_, _, rfl, .inl ⟨xs, h, rfl⟩, q⟩
theorem lenT (h : SqT K H p xs) (q : Q (.int (xs.length : Int)) H) : rLen K [V.ref p] H Q := ⟨_, _, rfl, .inr ⟨xs, h, rfl⟩, q⟩
theorem lenS {z : Str} (h : z.length ≤ sizeLine) (q : Q (.int (z.length : Int)) H) : rLen K [V.str z] H Q := ⟨_, _, rfl, ⟨h, rfl⟩, q⟩
def rInt1 : List V → Hp → VK → Prop := fun xs H Q => (∃ i, xs = [.int i] ∧ Q (.int i) H) ∨ ∃ k, xs = [.bl k] ∧ Q (.int (if k then 1 else 0)) H
theorem c_int1 {X : Cx} : CallR X (.type "int") rInt1 := call_int1
theorem intI (q : Q (.int i) H) : rInt1 [V.int i] H Q := .inl ⟨i, rfl, q⟩
theorem intB {b : Bool} (q : Q (.int (if b then 1 else 0)) H) : rInt1 [V.bl b] H Q := .inr ⟨b, rfl, q⟩
def rAbs : List V → Hp → VK → Prop := fun xs H Q => ∃ i, xs = [.int i] ∧ Q (.int (if i < 0 then -i else i)) H
theorem c_abs {X : Cx} : CallR X (.builtin "abs") rAbs := call_abs
theorem absI (q : Q (.int (i.natAbs : Int)) H) : rAbs [V.int i] H Q := ⟨i, rfl, by
  have e : (if i < 0 then -i else i) = (i.natAbs : Int) := by split <;> omega
  rw [e]; exact q⟩
def rMax2 : List V → Hp → VK → Prop := fun xs H Q => ∃ i j, xs = [.int i, .int j] ∧ Q (.int (if j > i then j else i)) H
def rMin2 : List V → Hp → VK → Prop := fun xs H Q => ∃ i j, xs = [.int i, .int j] ∧ Q (.int (if j < i then j else i)) H
theorem c_max2 {X : Cx} (hc : X.calm = true) : CallR X (.builtin "max") rMax2 := call_max2 hc
theorem c_min2 {X : Cx} (hc : X.calm = true) : CallR X (.builtin "min") rMin2 := call_min2 hc
theorem maxI {j : Int} (q : Q (.int (max i j)) H) : rMax2 [V.int i, V.int j] H Q := ⟨i, j, rfl, by
  have e : (if j > i then j else i) = max i j := by split <;> omega
  rw [e]; exact q⟩
theorem minI {j : Int} (q : Q (.int (min i j)) H) : rMin2 [V.int i, V.int j] H Q := ⟨i, j, rfl, by
  have e : (if j < i then j else i) = min i j := by split <;> omega
  rw [e]; exact q⟩
def rStrI : List V → Hp → VK → Prop := fun xs H Q => ∃ i : Int, xs = [.int i] ∧ i.natAbs.log2 < 1920 ∧ Q (.str (toString i)) H
theorem c_str {X : Cx} : CallR X (.type "str") rStrI := call_str_int
theorem strI (h : i.natAbs.log2 < 1920) (q : Q (.str (toString i)) H) : rStrI [V.int i] H Q := ⟨i, rfl, h, q⟩
def rListOf (K : PySem.W.Frag) : List V → Hp → VK → Prop := fun xs H Q => ∃ p ys, xs = [.ref p] ∧ (SqL K H p ys ∨ SqT K H p ys) ∧ ∀ l, H l = none → Q (.ref l) (upd H l (.lst ys))
theorem c_listOf {X : Cx} : CallR X (.type "list") (rListOf X.K) := call_list_of
theorem listL (h : SqL K H p xs) (q : ∀ l, H l = none → Q (.ref l) (upd H l (.lst xs))) : rListOf K [V.ref p] H Q := ⟨p, xs, rfl, .inl h, q⟩
theorem listT (h : SqT K H p xs) (q : ∀ l, H l = none → Q (.ref l) (upd H l (.lst xs))) : rListOf K [V.ref p] H Q := ⟨p, xs, rfl, .inr h, q⟩
def rTupOf (K : PySem.W.Frag) : List V → Hp → VK → Prop := fun xs H Q => ∃ p ys, xs = [.ref p] ∧ ((SqL K H p ys ∧ ∀ l, H l = none → Q (.ref l) (upd H l (.tup ys))) ∨ (SqT K H p ys ∧ Q (.ref p) H))
theorem c_tupOf {X : Cx} : CallR X (.type "tuple") (rTupOf X.K) := call_tuple_of
theorem tupL (h : SqL K H p xs) (q : ∀ l, H l = none → Q (.ref l) (upd H l (.tup xs))) : rTupOf K [V.ref p] H Q := ⟨p, xs, rfl, .inl ⟨h, q⟩⟩
def rOrd : List V → Hp → VK → Prop := fun xs H Q => ∃ x : Str, xs = [.str x] ∧ x.length = 1 ∧ Q (.int (x.cps.getD 0 0 : Nat)) H
theorem c_ord {X : Cx} : CallR X (.builtin "ord") rOrd := call_ord
theorem ordS {z : Str} (h : z.length = 1) (q : Q (.int (z.cps.getD 0 0 : Nat)) H) : rOrd [V.str z] H Q := ⟨z, rfl, h, q⟩
def rDivmod : List V → Hp → VK → Prop := fun xs H Q => ∃ i j, xs = [.int i, .int j] ∧ CDiv i j ∧ ∀ p, H p = none → Q (.ref p) (upd H p (.tup [.int (i / j), .int (i % j)]))
theorem c_divmod {X : Cx} : CallR X (.builtin "divmod") rDivmod := call_divmod
theorem sql {H' : Hp} {a : Addr} (e : Same H H') (h : SqL K H a xs) : SqL K H' a xs := e.seq h
theorem at_ints {ns : List Int} (h0 : 0 ≤ i) (h1 : i < (ns.length : Int)) : atI (ns.map V.int) i = some (.int (ns.getD i.toNat 0)) := by
  have e : i = ((i.toNat : Nat) : Int) := (Int.toNat_of_nonneg h0).symm
  rw [e]
  refine atI_nat ?_
  have hl : i.toNat < ns.length := by omega
  rw [List.getElem?_map, List.getElem?_eq_getElem hl, Int.toNat_natCast, List.getD_eq_getElem?_getD, List.getElem?_eq_getElem hl]
  rfl
end
end WP
namespace WP
open PySem PySem.Spec PyProof.Rows L2
section
variable {X : Cx}
theorem cut {t u : TS} {D : Ends} {σ : L2.St} {H : Hp} (Mid : L2.St → Hp → Prop) (h : t { D with nx := Mid } σ H) (k : ∀ σ' H', Mid σ' H' → u D σ' H') : Evl.tCut t u D σ H := ⟨Mid, h, k⟩
end
/-! ### == of data -/
section
variable {K : PySem.W.Frag} {H : Hp} {x y : V} {d e : PyData} {Q : VK}
theorem eqD (a : Dp K H x d) (b : Dp K H y e) (h : Q (.bl (PyData.eqv d e)) H) (s1 : SeqAt.shaped d = true := by first | rfl | decide +kernel) (s2 : SeqAt.shaped e = true := by first | rfl | decide +kernel) : rEqD K x y H Q := ⟨d, e, a, b, s1, s2, h⟩
theorem neD (a : Dp K H x d) (b : Dp K H y e) (h : Q (.bl (!PyData.eqv d e)) H) (s1 : SeqAt.shaped d = true := by first | rfl | decide +kernel) (s2 : SeqAt.shaped e = true := by first | rfl | decide +kernel) : rNeD K x y H Q := ⟨d, e, a, b, s1, s2, h⟩
theorem dpv {p : Addr} {u : Int} {s : Nat} (h : SqT K H p (dv u s)) : Dp K H (.ref p) (.tuple [.int u, .int (s : Int)]) := .tup h (.cons (.int _) (.cons (.int _) .nil))
end
end WP
namespace WP
open PySem PySem.Spec PyProof.Rows L2
abbrev MG := Str → Option Value
/-- the address that a module's name holds -/
def ca (mg : MG) (nm : Str) : Addr := match mg nm with
  | some (.ref a) => a
  | _ => 0
theorem ca_of {mg : MG} {nm : Str} {a : Addr} (h : mg nm = some (.ref a)) : ca mg nm = a := by unfold ca; rw [h]
/-! ### own exceptions without an __init__ of their own -/
structure ExcAt (K : PySem.W.Frag) (C : Addr) : Prop where
  x : PySem.W.excIn K C [.type "ValueError", .type "Exception", .type "BaseException", .type "object"] "ValueError.__new__" = true
  k : PySem.W.keepIn K (.ref C) = true
  t : PySem.W.typeIn K (.ref C) = some (.type "type")
  c : ExcC K C
structure ExcOk (K : PySem.W.Frag) (mg : MG) (nm : Str) : Prop where
  m : mg nm = some (.ref (ca mg nm))
  a : ExcAt K (ca mg nm)
theorem ExcOk.mk' {K : PySem.W.Frag} {mg : MG} {nm : Str} {C : Addr} (h : mg nm = some (.ref C)) (x : ExcAt K C) : ExcOk K mg nm := by
  have e := ca_of h
  exact ⟨by rw [e]; exact h, by rw [e]; exact x⟩
theorem ExcAt.raises {X : Cx} {C : Addr} (x : ExcAt X.K C) : Raises X (.ref C) := raises_own x.c.hs x.t
theorem ExcAt.catches {K : PySem.W.Frag} {C : Addr} (x : ExcAt K C) {cls : Value} {b : Bool} (h : PySem.W.subIn K cls (.ref C) = some b) : PySem.W.exmOne K cls (.ref C) = some b := PySem.W.exm_ref x.c.hs x.c.hd x.t h
section
variable {X : Cx} {x m : Str} {j : Nat} {p p2 pos pos2 : Pos} {W : WX}
theorem ps_raiseC (hc : X.calm = true) (tk : Takes X W) (e : ExcOk X.K X.mg x) (hg : Gl X x) (hdb : (x == ("__debug__" : Str)) = false := by decide) :
    PS X (.Raise (some (.Call (.Name x p) [.Constant (.str m) j p2] [] pos)) none pos2) (fun _ σ H => W (.ref (ca X.mg x)) none σ H) :=
  ps_raise hc tk (pmk_own PySem.F.excBase_ValueError e.a.x e.m e.a.k e.a.raises hg hdb)
end
/-- isinstance of the caught error -/
def rIsX (K : PySem.W.Frag) (a : Addr) (cls : Value) (d : Option Addr) : List V → Hp → VK → Prop := fun xs H Q => ∃ D, cls = .ref D ∧ d = none ∧ ExcC K D ∧ rIsE K D a xs H Q
theorem call_isX {X : Cx} {a : Addr} {oe : Obj} {cls : Value} {d : Option Addr} {pn : List (Addr × Obj)} (hz : Zc cls d oe) (hf : ∃ vs, oe.data = .fields vs) : CallR (X.suite a ((a, oe) :: pn)) (.builtin "isinstance") (rIsX X.K a cls d) := by
  intro pins s σ H xs us Q I r h
  obtain ⟨D, rfl, rfl, c, h⟩ := h
  exact call_isE c hz hf pins s σ H xs us Q I r h
theorem isX {K : PySem.W.Frag} {a D C : Addr} {b : Bool} {H : Hp} {Q : VK} (c : ExcC K D) (h : PySem.W.kitOne K (.ref D) (.ref C) = some b) (q : Q (.bl b) H) : rIsX K a (.ref D) none [.ref a, .ref C] H Q :=
  ⟨D, rfl, rfl, c, .ref C, .ref C, b, rfl, fun _ r => r, h, q⟩
section
variable {X : Cx} {CX' : CXT} {k j : Nat} {ps : List Str} {sp : Sp} {E : L2.St → XK} {E0 : XK} {x : Str} {p pos : Pos} {e : Expr} {es : List Expr} {t : TA}
theorem pe_callSC (C : Callee X.prog X.w X.K X.mg X.base (L2.CX X.prog X.w) k x ps sp) (hr : Room j X.A) (hg : Gl X x) (hx : ∀ σ, PassesAt (L2.CX X.prog X.w) X σ (E σ)) (ha : PA X (e :: es) t) (hl : k ≤ j := by decide)
    (hdb : (x == ("__debug__" : Str)) = false := by decide) (he : starEach (e :: es) X.env = (false, eval e X.env) :: starEach es X.env := by rfl) (hpl : (backTo pos (starEach es X.env)).any (·.1) = false := by rfl) :
    PE X (.Call (.Name x p) (e :: es) [] pos) (tCallS sp E t) := by
  obtain ⟨f, fd, F, hm, hk, hb⟩ := C.ex
  exact pe_callS F (hr.mono hl) hg hm hk hb hx ha hdb he hpl
/-- what a callee lets out leaves this def too -/
theorem passX {E : XK} {E₁ : Value → Shared → Prop} (hs : X.stack = X.env :: X.outer) (hf : X.env.frame = some X.env.locals) (hex : X.ex = [])
    (hx : X.xe = fun e s' => wpAny (model X.prog X.w) X.A (leaving X.env e) (fun _ s'' => L2.CX X.prog X.w X.outer X.H_0 X.s_0 E e s'') E₁ s') : Passes (L2.CX X.prog X.w) X E :=
  fun pins σ H s e s' I c => passes_call (takes_of hs hf hex hx) (fun _ _ _ _ z => z) pins σ H s e s' I c
end
theorem callS {sp : Sp} {E : L2.St → XK} {a : TA} {σ : L2.St} {H : Hp} {Q : VK} (h : a σ H fun vs H1 => sp vs H1 Q (E σ)) : tCallS sp E a σ H Q := h
end WP
namespace WP
open PySem PySem.Spec PyProof.Rows L2
def rDivmodW : List V → Hp → VK → Prop := fun xs H Q => ∃ i j, xs = [.int i, .int j] ∧ CDivP i j ∧ ∀ p, H p = none → Q (.ref p) (upd H p (.tup [.int (i / j), .int (i % j)]))
theorem c_divmodW {X : Cx} : CallR X (.builtin "divmod") rDivmodW := call_divmodW
theorem Bt.p {i j : Int} {a : Nat} (h : Bt i a) (hj : 0 < j) (l : a ≤ 4000 := by omega) : CDivP i j := divp_ok hj (by have := intBits_le h; omega)
theorem divW {i j : Int} {H : Hp} {Q : VK} (c : CDivP i j) (q : ∀ p, H p = none → Q (.ref p) (upd H p (.tup [.int (i / j), .int (i % j)]))) : rDivmodW [.int i, .int j] H Q := ⟨i, j, rfl, c, q⟩
end WP
namespace WP
open PySem PySem.Spec PyProof.Rows L2
/-- a callee that raises, called where it does not -/
theorem pass0X {X : Cx} : Passes (L2.CX X.prog X.w) X (fun _ _ _ => False) := fun pins σ H s e s' I c => passes_call (W := fun _ _ _ _ => False) takes0 (fun _ _ _ _ z => z) pins σ H s e s' I c
end WP
namespace WP
open PySem PySem.Spec PyProof.Rows L2
/-- no star -/
def noStar : Expr → Bool
  | .Starred _ _ => false
  | _ => true
theorem starEach_no {e : Expr} {es : List Expr} {env : Env} (h : noStar e = true) : starEach (e :: es) env = (false, eval e env) :: starEach es env := by
  cases e with
  | Starred a b => cases h
  | _ => rfl
theorem pa_consN {X : Cx} {e : Expr} {es : List Expr} {te : TE} {t : TA} (ha : PE X e te) (hr : PA X es t) (hs : noStar e = true := by rfl) : PA X (e :: es) (tCons te t) := pa_cons ha hr (starEach_no hs)
end WP

namespace WP
open PySem PySem.Spec PyProof.Rows L2
open SX (S S_len S_cat)
section
variable {X : Cx}
theorem pe_strL {x : Str} {j pos} (l : List Nat) (h : x = S l) : PE X (.Constant (.str x) j pos) (tC (.str (S l))) := by subst h; exact pe_str
/-- text * number -/
def rMulS : R2 := fun x y H Q => ∃ (a : Str) (i : Int), x = .str a ∧ y = .int i ∧ MulOk a i ∧ Q (.str (Txt.mul a i)) H
theorem op_mul_str : OpR X (binaryOp .Mult) rMulS := by
  intro pins s σ H x y v u Q I rx ry h
  obtain ⟨a, i, rfl, rfl, hz, q⟩ := h
  obtain ⟨t, rfl⟩ := rx
  obtain ⟨t', rfl⟩ := ry
  exact SB.mul hz fun t' k => ⟨.str _, H, I.tok _, ⟨_, rfl⟩, q⟩
def rAddS : R2 := fun x y H Q => ∃ (a b : Str), x = .str a ∧ y = .str b ∧ a.length + b.length ≤ sizeLine ∧ Q (.str (a ++ b)) H
theorem op_addS : OpR X (binaryOp .Add) rAddS := op_add_str
def rZfill : V → List V → Hp → VK → Prop := fun x xs H Q => ∃ (a : Str) (i : Int), x = .str a ∧ xs = [.int i] ∧ PadOk i = true ∧ Q (.str (Txt.zfill a i)) H
theorem m_zfill : MtR X "str.zfill" rZfill := mt_zfill
def rIntS : List V → Hp → VK → Prop := fun xs H Q => ∃ (a : Str) (n : Int), xs = [.str a] ∧ PySem.intText? a = some n ∧ a.length ≤ 640 ∧ Q (.int n) H
theorem c_intS : CallR X (.type "int") rIntS := call_int_str
end
section
variable {a b l : List Nat} {i : Int} {H : Hp} {Q : VK}
theorem catS (q : Q (.str (S (a ++ b))) H) (h : a.length + b.length ≤ sizeLine := by size_fits) : rAddS (.str (S a)) (.str (S b)) H Q := ⟨_, _, rfl, rfl, by rw [S_len, S_len]; exact h, by rw [S_cat]; exact q⟩
theorem reps1 (c : Nat) : ∀ (k : Nat) (acc : Array Nat), ((List.replicate k #[c]).foldl (· ++ ·) acc) = (acc.toList ++ List.replicate k c).toArray
  | 0, acc => by simp
  | k + 1, acc => by
    rw [List.replicate_succ, List.foldl_cons, reps1 c k]
    simp [List.replicate_succ]
theorem mul_S (c : Nat) (i : Int) : Txt.mul (S [c]) i = S (List.replicate i.toNat c) := by
  unfold Txt.mul
  split
  · rename_i h
    rw [show i.toNat = 0 by omega]; rfl
  · rename_i h
    split
    · rename_i h2
      have : i = 1 := by
        rw [Bool.or_eq_true] at h2
        rcases h2 with h2 | h2
        · exact eq_of_beq h2
        · exact absurd h2 (by rw [S_len]; exact Bool.false_ne_true)
      subst this
      rfl
    · show (⟨(List.replicate i.toNat #[c]).foldl (· ++ ·) #[]⟩ : Str) = _
      rw [reps1]; simp [S]
theorem mulOk1 (c : Nat) {i : Int} (h : i ≤ 100000) (h2 : -100000 ≤ i) : MulOk (S [c]) i := by
  refine ⟨by rw [decide_eq_false (by omega), decide_eq_false (by omega)]; rfl, fun h1 _ => ?_, fun h1 _ => ?_⟩
  · rw [S_len]
    show ¬ (((1 : Nat) : Int) > _)
    have : (1 : Int) ≤ (2 ^ 63 - 1) / i := by
      rw [Int.le_ediv_iff_mul_le (by omega)]; omega
    omega
  · rw [S_len]
    unfold Builtin.Str.tooLong
    exact decide_eq_false (by rw [sizeLine_eq]; show ¬ (1 * i.toNat > _); omega)
theorem mulS {c : Nat} (h : i ≤ 100000) (h2 : -100000 ≤ i) (q : Q (.str (S (List.replicate i.toNat c))) H) : rMulS (.str (S [c])) (.int i) H Q :=
  ⟨_, _, rfl, rfl, mulOk1 c h h2, by rw [mul_S]; exact q⟩
/-- zfill of a text without a sign -/
theorem zfill_S (h : ∀ c, l.head? = some c → c ≠ 43 ∧ c ≠ 45) (hi : 0 ≤ i) : Txt.zfill (S l) i = S (List.replicate (i.toNat - l.length) 48 ++ l) := by
  unfold Txt.zfill
  rw [S_len]
  split
  · rename_i h1
    rw [show i.toNat - l.length = 0 by omega]; rfl
  · unfold PySem.zfilled
    have e : (S l).cps[0]? = l.head? := by simp [S, List.head?_eq_getElem?]
    rw [e]
    have fin : Builtin.Str.padded (S l) (i.toNat - l.length) 0 48 = S (List.replicate (i.toNat - l.length) 48 ++ l) := by
      unfold Builtin.Str.padded
      simp [S]
    split
    · rename_i hc; exact absurd rfl (h _ hc).1
    · rename_i hc; exact absurd rfl (h _ hc).2
    · exact fin
theorem zfillS (h : ∀ c, l.head? = some c → c ≠ 43 ∧ c ≠ 45) (hi : 0 ≤ i) (h2 : i ≤ 100000) (q : Q (.str (S (List.replicate (i.toNat - l.length) 48 ++ l))) H) : rZfill (.str (S l)) [.int i] H Q :=
  ⟨_, _, rfl, rfl, by unfold PadOk fitsSsize; rw [decide_eq_false (by omega), decide_eq_false (by omega)]; unfold Builtin.Str.tooLong; rw [decide_eq_false (by rw [sizeLine_eq]; omega)]; rfl, by rw [zfill_S h hi]; exact q⟩
theorem lenS' (h : l.length ≤ sizeLine) (q : Q (.int (l.length : Int)) H) {K : PySem.W.Frag} : rLen K [V.str (S l)] H Q := ⟨_, _, rfl, ⟨by rw [S_len]; exact h, rfl⟩, by rw [S_len]; exact q⟩
theorem strN {n : Nat} (h : n.log2 < 1920) (q : Q (.str (S (TL.numL n))) H) : rStrI [V.int (n : Int)] H Q := ⟨_, rfl, by rw [Int.natAbs_natCast]; exact h, by
  have e : Str.ofString (toString ((n : Nat) : Int)) = S (TL.numL n) := SX.num_S n
  rw [e]; exact q⟩
theorem intSd (h : l.all (fun c => decide (48 ≤ c) && decide (c ≤ 57)) = true) (hne : l ≠ []) (hl : l.length ≤ 640) (q : Q (.int ((NumText.digitsVal l : Nat) : Int)) H) : rIntS [V.str (S l)] H Q :=
  ⟨_, _, rfl, SX.int_S h hne (by omega), by rw [S_len]; exact hl, q⟩
theorem slS {lo hi : Option Int} (z : Str) (h : z.length ≤ sizeLine) (q : Q (.str (Txt.slice z lo hi)) H) : rSlS (.str z) lo hi H Q := ⟨z, rfl, h, by rw [C8.cutS_slice]; exact q⟩
theorem slTo (hi : 0 ≤ i) (h : l.length ≤ sizeLine) (q : Q (.str (S (l.take i.toNat))) H) : rSlS (.str (S l)) none (some i) H Q := slS _ (by rw [S_len]; exact h) (by rw [SX.slice_to hi]; exact q)
theorem slFrom (hi : 0 ≤ i) (h : l.length ≤ sizeLine) (q : Q (.str (S (l.drop i.toNat))) H) : rSlS (.str (S l)) (some i) none H Q := slS _ (by rw [S_len]; exact h) (by rw [SX.slice_from hi]; exact q)
/-- an index from the end -/
theorem idx_neg_hi {l1 : Option Int} {n : Nat} {i : Int} (h : i < 0) (h2 : 0 ≤ i + n) : Builtin.Str.strSliceIndices l1 (some i) 1 n = Builtin.Str.strSliceIndices l1 (some (i + n)) 1 n := by
  have h1 : ¬ (i + n < 0) := by omega
  simp only [Builtin.Str.strSliceIndices, h, h1, if_false, if_true]
theorem idx_neg_lo {l1 : Option Int} {n : Nat} {i : Int} (h : i < 0) (h2 : 0 ≤ i + n) : Builtin.Str.strSliceIndices (some i) l1 1 n = Builtin.Str.strSliceIndices (some (i + n)) l1 1 n := by
  have h1 : ¬ (i + n < 0) := by omega
  simp only [Builtin.Str.strSliceIndices, h, h1, if_false, if_true]
theorem slice_toN (h : i < 0) (h2 : 0 ≤ i + (l.length : Int)) : Txt.slice (S l) none (some i) = S (l.take (i + (l.length : Int)).toNat) := by
  rw [← SX.slice_to h2]
  unfold Txt.slice
  rw [S_len, idx_neg_hi h h2]
theorem slice_fromN (h : i < 0) (h2 : 0 ≤ i + (l.length : Int)) : Txt.slice (S l) (some i) none = S (l.drop (i + (l.length : Int)).toNat) := by
  rw [← SX.slice_from h2]
  unfold Txt.slice
  rw [S_len, idx_neg_lo h h2]
theorem slToN (hi : i < 0) (h2 : 0 ≤ i + (l.length : Int)) (h : l.length ≤ sizeLine) (q : Q (.str (S (l.take (i + (l.length : Int)).toNat))) H) : rSlS (.str (S l)) none (some i) H Q := slS _ (by rw [S_len]; exact h) (by rw [slice_toN hi h2]; exact q)
theorem slFromN (hi : i < 0) (h2 : 0 ≤ i + (l.length : Int)) (h : l.length ≤ sizeLine) (q : Q (.str (S (l.drop (i + (l.length : Int)).toNat))) H) : rSlS (.str (S l)) (some i) none H Q := slS _ (by rw [S_len]; exact h) (by rw [slice_fromN hi h2]; exact q)
theorem eqTS {a b : List Nat} (h : Q (.bl (decide (a = b))) H) : rEq (.str (S a)) (.str (S b)) H Q := ⟨rfl, by
  have e : decide ((S a : Str) = S b) = decide (a = b) := by
    by_cases h : a = b
    · subst h; rw [decide_eq_true rfl, decide_eq_true rfl]
    · rw [decide_eq_false h, decide_eq_false fun z => h (SX.S_inj z)]
  rw [dec_str, e]; exact h⟩
theorem neTS {a b : List Nat} (h : Q (.bl (!decide (a = b))) H) : rNe (.str (S a)) (.str (S b)) H Q := ⟨rfl, by
  have e : decide ((S a : Str) = S b) = decide (a = b) := by
    by_cases h : a = b
    · subst h; rw [decide_eq_true rfl, decide_eq_true rfl]
    · rw [decide_eq_false h, decide_eq_false fun z => h (SX.S_inj z)]
  rw [dec_str, e]; exact h⟩
/-- range with a step -/
theorem rng3 {ta : TA} {σ : L2.St} {R : It → Hp → Prop} (h : ta σ H fun vs H1 => ∃ (i j c : Int) (n : Nat), vs = [.int i, .int j, .int c] ∧ RgC i j c n ∧ R (Itc i c n) H1) : iRng3 ta σ H R := h
end
/-! ### the figures of a number -/
/-- k figures of n -/
def padL : Nat → Nat → List Nat
  | 0, _ => []
  | k + 1, n => padL k (n / 10) ++ [48 + n % 10]
theorem padL_len : ∀ k n, (padL k n).length = k
  | 0, _ => rfl
  | k + 1, n => by unfold padL; rw [List.length_append, padL_len]; rfl
theorem numL_app : ∀ (k q r : Nat), 0 < q → r < 10 ^ k → TL.numL (q * 10 ^ k + r) = TL.numL q ++ padL k r
  | 0, q, r, _, hr => by
    have : r = 0 := by simp at hr; exact hr
    subst this
    simp [padL]
  | k + 1, q, r, hq, hr => by
    have e10 : 10 ^ (k + 1) = 10 ^ k * 10 := Nat.pow_succ ..
    have hp : 0 < 10 ^ k := Nat.pow_pos (by decide)
    have b : 10 ≤ q * 10 ^ (k + 1) + r := by
      have : 1 * 10 ^ (k + 1) ≤ q * 10 ^ (k + 1) := Nat.mul_le_mul_right _ hq
      omega
    have d : (q * 10 ^ (k + 1) + r) / 10 = q * 10 ^ k + r / 10 := by
      rw [e10, ← Nat.mul_assoc]; omega
    have m : (q * 10 ^ (k + 1) + r) % 10 = r % 10 := by
      rw [e10, ← Nat.mul_assoc]; omega
    rw [TL.numL_step b, d, m, numL_app k q (r / 10) hq (by omega)]
    rw [show padL (k + 1) r = padL k (r / 10) ++ [48 + r % 10] from rfl, List.append_assoc]
theorem padL_zero : ∀ k, padL k 0 = List.replicate k 48
  | 0 => rfl
  | k + 1 => by unfold padL; rw [show 0 / 10 = 0 from rfl, padL_zero k, List.replicate_succ']
theorem padL_num : ∀ (k n : Nat), 0 < k → n < 10 ^ k → padL k n = List.replicate (k - (TL.numL n).length) 48 ++ TL.numL n
  | k + 1, n, _, h => by
    by_cases c : n < 10
    · rw [TL.numL_lt c]
      unfold padL
      rw [show n / 10 = 0 by omega, padL_zero, show n % 10 = n by omega]
      rfl
    · have hk : 0 < k := by
        rcases k with _ | k
        · simp at h; omega
        · omega
      have e10 : 10 ^ (k + 1) = 10 ^ k * 10 := Nat.pow_succ ..
      rw [TL.numL_step (by omega)]
      unfold padL
      rw [padL_num k (n / 10) hk (by omega), List.length_append, List.append_assoc]
      congr 2
      simp
theorem numL_head {n c : Nat} (h : (TL.numL n).head? = some c) : c ≠ 43 ∧ c ≠ 45 := by
  have m : c ∈ TL.numL n := List.mem_of_head? h
  have := TL.numL_digits n c m
  omega
theorem digits_rep (n : Nat) : NumText.digitsVal (49 :: List.replicate n 48) = 10 ^ n := by
  unfold NumText.digitsVal
  rw [List.foldl_cons]
  have : ∀ (n a : Nat), (List.replicate n 48).foldl (fun acc c => acc * 10 + (c - 48)) a = a * 10 ^ n := by
    intro n
    induction n with
    | zero => intro a; simp
    | succ n ih => intro a; rw [List.replicate_succ, List.foldl_cons, ih, Nat.pow_succ]; rw [Nat.sub_self, Nat.add_zero, Nat.mul_assoc, Nat.mul_comm 10]
  rw [this]; simp
end WP
namespace WP
open PySem PySem.Spec PyProof.Rows L2
section
variable {K : PySem.W.Frag} {σ : L2.St} {H : Hp} {Q : VK} {x v : V} {p : Addr} {xs : List V}
theorem bm {T : String} {r : V → List V → Hp → VK → Prop} {to : TE} {t : TA} (h : to σ H fun x H1 => tyV K T x H1 ∧ t σ H1 fun xs H2 => r x xs H2 Q) : tBM K T r to t σ H Q := h
theorem tyS {z : Str} {A : Prop} (q : A) : tyV K "str" (.str z) H ∧ A := ⟨rfl, q⟩
theorem gsub {to ti : TE} {t : TSet} {QS : L2.St → Hp → Prop} (h : to σ H fun o H1 => ti σ H1 fun i H2 => t o i v H2 fun H3 => QS σ H3) : gSub to ti t v σ H QS := h
theorem setL {k : Int} {j : Nat} {R : Hp → Prop} (hp : H p = some (.lst xs)) (hj : ixN xs.length k = some j) (q : R (upd H p (.lst (xs.set j v)))) : rSetL (.ref p) (.int k) v H R := ⟨p, xs, k, j, rfl, rfl, hp, hj, q⟩
theorem appL (hp : H p = some (.lst xs)) (hz : xs.length < sizeLine) (q : Q .non (upd H p (.lst (xs ++ [v])))) : rAppend (.ref p) [v] H Q := ⟨p, xs, v, rfl, rfl, hp, hz, q⟩
theorem tyL {A : Prop} (hp : SqL K H p xs) (q : A) : tyV K "list" (.ref p) H ∧ A := ⟨.inl ⟨rfl, xs, hp⟩, q⟩
theorem tyT (h : SqT K H p xs) : TyX K H (.ref p) (.type "tuple") := by
  rcases h with (h | ⟨o, h⟩) | h
  · exact .base (.tup h)
  · exact .fTuple h
  · obtain ⟨o, its, n, h1, h2, h3⟩ := h
    exact .kTuple h1 h2
/-- all objects but the one at d are kept -/
def Sx (d : Addr) (H H' : Hp) : Prop := ∀ a o, a ≠ d → H a = some o → H' a = some o
theorem Sx.refl {d : Addr} {H : Hp} : Sx d H H := fun _ _ _ e => e
theorem Sx.trans {d : Addr} {H H' H2 : Hp} (h : Sx d H H') (k : Sx d H' H2) : Sx d H H2 := fun a o n e => k a o n (h a o n e)
theorem Sx.of {d : Addr} {H H' : Hp} (h : Same H H') : Sx d H H' := fun a o _ e => h a o e
theorem Sx.upd {d : Addr} {H : Hp} {o : HO} : Sx d H (upd H d o) := fun a u n e => by rw [upd_ne n]; exact e
theorem sqtX {d : Addr} {H H' : Hp} {ys : List V} (e : Sx d H H') (hd : H d = some (.lst ys)) (h : SqT K H p xs) : SqT K H' p xs := by
  rcases h with (h | ⟨o, h⟩) | h
  · exact .inl (.inl (e _ _ (fun z => by rw [z, hd] at h; cases h) h))
  · exact .inl (.inr ⟨o, e _ _ (fun z => by rw [z, hd] at h; cases h) h⟩)
  · exact .inr h
end
end WP
namespace WP
theorem log2_lt {n k : Nat} (hk : 0 < k) (h : n < 2 ^ k) : n.log2 < k := by
  by_cases z : n = 0
  · subst z; exact hk
  · exact (Nat.log2_lt z).mpr h
end WP
namespace WP
open PySem PySem.Spec PyProof.Rows L2
theorem ifSS {c : Prop} [Decidable c] {a b : List Nat} {σ : L2.St} {H : Hp} {Q : VK} (q : Q (.str (SX.S (if c then a else b))) H) : if decide c = true then tC (.str (SX.S a)) σ H Q else tC (.str (SX.S b)) σ H Q := by
  by_cases h : c
  · rw [if_pos (decide_eq_true h)]; rw [if_pos h] at q; exact q
  · rw [if_neg (by rw [decide_eq_false h]; exact Bool.false_ne_true)]; rw [if_neg h] at q; exact q
end WP
namespace WP
open PySem PySem.Spec PyProof.Rows L2
section
variable {K : PySem.W.Frag} {H H' : Hp} {a d : Addr} {xs : List V}
theorem sqlX (e : Sx d H H') (n : a ≠ d) (h : SqL K H a xs) : SqL K H' a xs := by
  rcases h with (h | ⟨o, h⟩) | h
  · exact .inl (.inl (e _ _ n h))
  · exact .inl (.inr ⟨o, e _ _ n h⟩)
  · exact .inr h
end
end WP
namespace WP
open PySem PySem.Spec PyProof.Rows L2
/-- a text that may stand in data -/
def SOk (z : Str) : Prop := (PyData.str z).canLay0 = true
theorem SOk.sh {z : Str} (h : SOk z) : SeqAt.shaped (.str z) = true := Bool.and_eq_true_iff.mpr ⟨h, rfl⟩
theorem sok_S {l : List Nat} (h : ∀ c ∈ l, c < 1114112) : SOk (SX.S l) := by
  show (SX.S l).cps.all (· < 0x110000) = true
  rw [← Array.all_toList]
  exact List.all_eq_true.mpr fun c hc => decide_eq_true (h c hc)
end WP
namespace WP
open PySem PySem.Spec PyProof.Rows L2
theorem rg9 {j : Int} (h1 : 1 ≤ j) (h2 : j ≤ 1000) : RgC 0 j 9 ((j - 1) / 9 + 1).toNat := by
  have e : Builtin.Range.rangeSize 0 j 9 = (j - 1) / 9 + 1 := by
    unfold Builtin.Range.rangeSize
    rw [if_pos (by decide), if_pos (by omega), show j - 0 - 1 = j - 1 by omega]
  refine ⟨by decide, by decide, ?_, by rw [e]; omega⟩
  unfold Builtin.Range.small
  rw [e]
  simp only [Builtin.Range.rangeFitsLong, Bool.and_eq_true, Bool.or_eq_true, decide_eq_true_eq, beq_iff_eq]
  simp
  omega
end WP

namespace WJ
open PySem PySem.W PySem.Calls PyProof.Rows PySem.SC
section
variable {prog : Program} {w : World} {A : Around} {E : Value → Shared → Prop} {s : Shared}
/-- x.join(reversed(a list)): the walk backwards is collected, then glued -/
theorem join_rev {x : Str} {t : Tok} {ys : List Str} {it l : Addr} {its : Array Value} {Q : Value → Shared → Prop} (hh : A.handled = none)
    (hi : s.heap.IsRevIter it l ((its.size : Int) - 1)) (hl : s.heap.IsList l its) (ne : l ≠ it) (hn : its.size ≤ sizeLine)
    (hy : ∀ acc : Array Value, ItemsOf (fun i v => its[its.size - 1 - i]? = some v) acc its.size → StrsAre acc.toList ys) (fit : (ys.map (·.length)).sum + ys.length * x.length ≤ 16777216)
    (done : ∀ (h' : Heap) (t' : Tok) (k : Nat), (∀ b o, b ≠ it → s.heap.get? b = some o → h'.get? b = some o) → Q (.str (Txt.join x ys) t') { s with heap := h', toks := k }) :
    wpAny (model prog w) A (call (.builtin "str.join") [.str x t, .ref it]) Q E s := by
  have T : s.TypeIs (.ref it) "list_reverseiterator" := Heap.IsRevIter.typeIs hi
  refine wpAny_call (codeAny_call_builtin F.slot_str_join.plain F.entry_str_join ?_)
  refine F.slot_str_join.check _ _ _ _ _ _ _ _ (typeIs_str _ _ _) (F.args_str_join_2 _ _) ?_
  rw [join_tree_other]
  refine wpAny_bind (wpAny_typeOf T ?_)
  show wpAny _ A.in1 ((pyIter (.ref it)).tryCatch _ >>= fun j => collect j >>= fun zs => joinTail x zs) _ _ s
  refine wpAny_bind (wpAny_tryCatch (wpAny_pyIter_revIter hi ?_))
  refine wpAny_bind (RT.collect_rev hh hi hl ne hn fun h' k acc kept got => ?_)
  obtain ⟨ts, et, ey⟩ := strsAre_values (hy acc got)
  subst ey
  rw [et]
  have ok := joinOk_of fit
  unfold JoinOk at ok
  rw [Bool.not_eq_true'] at ok
  have G : Gives (joinTail x (strValues ts)) (joinMade x ts) := by
    rcases ts with _ | ⟨_, _ | ⟨_, _⟩⟩ <;> exact gives_joinTail x _ ok
  refine G prog w A (wants Q E) { s with heap := h', toks := k } (post_join ts ⟨joinFit_length ok, fun t' k' => ?_⟩)
  exact done h' t' k' kept
end
end WJ
namespace WP
open PySem PySem.Spec PyProof.Rows L2
/-- sep.join(reversed(xs)), xs a list of texts -/
def tJoinRev (K : PySem.W.Frag) (to te : TE) : TE := fun σ H Q => to σ H fun x H1 => (∃ a, x = .str a) ∧ te σ H1 fun v H2 => ∃ (a : Str) (q : Addr) (ys : List Str),
  x = .str a ∧ v = .ref q ∧ SqL K H2 q (ys.map V.str) ∧ ((ys.map (·.length)).sum + ys.length * a.length ≤ 16777216) ∧ Q (.str (Txt.join a ys.reverse)) H2
theorem pe_joinRev {X : Cx} {o e : Expr} {to te : TE} {apos pos p2 pos2 : Pos} (hc : X.calm = true) (ho : PE X o to) (hg : Gl X "reversed") (hm : X.mg "reversed" = none) (he : PE X e te)
    (hs1 : starEach [.Call (.Name "reversed" p2) [e] [] pos2] X.env = [(false, eval (.Call (.Name "reversed" p2) [e] [] pos2) X.env)] := by rfl)
    (hs : starEach [e] X.env = (false, eval e X.env) :: starEach [] X.env := by rfl)
    (hbase : attributeBase o "join" X.env (eval o X.env) = eval o X.env := by rfl) (hline : (apos.endLine == pos.line) = true := by rfl) :
    PE X (.Call (.Attribute o "join" apos) [.Call (.Name "reversed" p2) [e] [] pos2] [] pos) (tJoinRev X.K to te) := by
  refine ⟨fun pins s σ H Q I h => ?_⟩
  refine PySem.Call_method1 hbase hs1 hline (thn (ho.run pins s σ H _ I h) fun v s1 ⟨x, H1, I1, r1, q1⟩ => ?_)
  obtain ⟨⟨a, rfl⟩, q1⟩ := q1
  obtain ⟨t, rfl⟩ := _root_.id r1
  refine ⟨"str", _, F.plainAttrs_str, F.slot_str_join, F.type_str_join, typeIs_str _ _ _, (fun _ e => nomatch e), Calls.callWith_builtin rfl (Calls.evalArgs_plain (Calls.spliced_cons ?_))⟩
  refine Call_ (ld_blt I1 hg hm PyProof.Rows.boot_reversed (PyProof.Rows.callWith_type1 (args_cons (thn (he.run pins s1 σ H1 _ I1 q1) fun u s2 ⟨v2, H2, I2, r2, q2⟩ => args_nil ?_) hs) hs rfl))
  obtain ⟨a', q, ys, ea, ev, hq, hz, q2⟩ := q2
  cases ea
  subst ev
  obtain rfl : u = Value.ref q := r2
  obtain ⟨its, rv, pl, hsz⟩ := I2.list hq
  refine call_reversed_list pl.isList (Calls.spliced_nil ?_)
  have k0 : ∀ b o, s2.heap.get? b = some o → (s2.heap.push (revObj q ((its.toArray.size : Int) - 1))).get? b = some o := fun b o e => Heap.get?_push_of_some _ e
  have I3 : Inv X pins σ H2 { s2 with heap := s2.heap.push (revObj q ((its.toArray.size : Int) - 1)) } := I2.kept (t' := s2.toks) k0
  obtain ⟨f0, f1, f2, f3, f4, f5⟩ := I2.fpOk (H' := H2) (b := s2.heap.objs.size) (Nat.le_refl _) (I2.hok.fresh (Nat.le_refl _))
  have hl := pl.isList
  obtain ⟨ol, hol, _⟩ := _root_.id hl
  refine WJ.join_rev (s := { s2 with heap := s2.heap.push (revObj q ((its.toArray.size : Int) - 1)) }) (ys := ys.reverse) (I2.ok.hd hc) ⟨_, Heap.get?_push_size _ rfl, rfl, rfl⟩ (hl.push _) (Nat.ne_of_lt (Heap.lt_size hol))
    (by rw [List.size_toArray, ← rv.length]; exact hsz) (fun acc hacc => ?_) (by rw [List.map_reverse, List.sum_reverse, List.length_reverse]; exact hz) fun h' t' k hk => ?_
  · have z := RT.vals_rev rv hacc
    rw [← List.map_reverse] at z
    exact strs_of_vals z
  · exact ⟨.str _, H2, I3.turned (t' := k) (fun b o hb e => hk b o hb e) f0 f1 f3 f4 f5, ⟨t', rfl⟩, q2⟩
end WP
namespace WP
open PySem PySem.Spec PyProof.Rows L2
theorem jr {K : PySem.W.Frag} {to te : TE} {σ : L2.St} {H : Hp} {Q : VK} (h : to σ H fun x H1 => (∃ a, x = .str a) ∧ te σ H1 fun v H2 => ∃ (a : Str) (q : Addr) (ys : List Str),
  x = .str a ∧ v = .ref q ∧ SqL K H2 q (ys.map V.str) ∧ ((ys.map (·.length)).sum + ys.length * a.length ≤ 16777216) ∧ Q (.str (Txt.join a ys.reverse)) H2) : tJoinRev K to te σ H Q := h
theorem joinL_nil : ∀ l : List (List Nat), TL.joinL [] l = l.flatten
  | [] => rfl
  | [p] => by simp [TL.joinL]
  | p :: q :: r => by rw [TL.joinL, joinL_nil (q :: r)]; simp
theorem join_nilS (ys : List (List Nat)) : Txt.join (SX.S []) (ys.map SX.S) = SX.S ys.flatten := by rw [SX.join_S, joinL_nil]
end WP

namespace WP
open PySem PySem.Spec PyProof.Rows L2
open SX (S S_len S_cat)
/-! ### tuples and dicts of the module -/
structure KTp (K : PySem.W.Frag) (mg : MG) (nm : Str) (xs : List V) : Prop where
  m : mg nm = some (.ref (ca mg nm))
  s : ∀ H, SqT K H (ca mg nm) xs
theorem KTp.mk' {K : PySem.W.Frag} {mg : MG} {nm : Str} {C : Addr} {xs : List V} (h : mg nm = some (.ref C)) (x : ∀ H, SqT K H C xs) : KTp K mg nm xs := by
  have e := ca_of h
  exact ⟨by rw [e]; exact h, by rw [e]; exact x⟩
structure KDc (K : PySem.W.Frag) (w : World) (mg : MG) (nm : Str) (l : List (Str × V)) : Prop where
  m : mg nm = some (.ref (ca mg nm))
  s : ∀ p ∈ l, KDct K w (ca mg nm) p.1 p.2
theorem KDc.mk' {K : PySem.W.Frag} {w : World} {mg : MG} {nm : Str} {C : Addr} {l : List (Str × V)} (h : mg nm = some (.ref C)) (x : ∀ p ∈ l, KDct K w C p.1 p.2) : KDc K w mg nm l := by
  have e := ca_of h
  exact ⟨by rw [e]; exact h, by rw [e]; exact x⟩
theorem kdc_cons {K : PySem.W.Frag} {w : World} {C : Addr} {k : Str} {v : V} {l : List (Str × V)} (h : KDct K w C k v) (t : ∀ p ∈ l, KDct K w C p.1 p.2) : ∀ p ∈ (k, v) :: l, KDct K w C p.1 p.2 := fun p hp => by
  rcases List.mem_cons.mp hp with e | e
  · subst e; exact h
  · exact t p e
section
variable {X : Cx}
theorem pe_ktup {x : Str} {xs : List V} {pos : Pos} (hg : Gl X x) (h : KTp X.K X.mg x xs) (hd : (x == ("__debug__" : Str)) = false := by decide) : PE X (.Name x pos) (tC (.ref (ca X.mg x))) := pe_glob hg h.m rfl hd
def rUpper : V → List V → Hp → VK → Prop := fun x xs H Q => ∃ a, x = .str a ∧ xs = [] ∧ a.length ≤ 5592405 ∧ Q (.str (Txt.upper a)) H
theorem m_upper : MtR X "str.upper" rUpper := mt_upper
theorem pe_dgetD {o e f : Expr} {td ty tx : TE} {apos cpos : Pos} (hu : X.A.units + 1 < cLine) (ho : PE X o td) (he : PE X e ty) (hf : PE X f tx) (m : M2 X o "get" apos e f cpos) : PE X (.Call (.Attribute o "get" apos) [e, f] [] cpos) (tDGet2 td ty tx) :=
  pe_dget2 hu ho he hf m
end
section
variable {K : PySem.W.Frag} {w : World} {σ : L2.St} {H : Hp} {Q : VK} {l : List Nat} {i : Int} {c : Nat}
theorem ixS1 (a : atI l i = some c) (hz : l.length ≤ sizeLine) (q : Q (.str (S [c])) H) : rIxS (.str (S l)) (.int i) H Q := ⟨S l, i, c, rfl, rfl, by rw [S_len]; exact hz, a, q⟩
theorem wstr {te : TE} {R : It → Hp → Prop} (h : te σ H fun v H1 => ∃ x, v = .str x ∧ R (Its x) H1) : iStr te σ H R := h
theorem upS (h : l.all (· < 128) = true) (hl : l.length ≤ 1000) (q : Q (.str (S (l.map up1))) H) : rUpper (.str (S l)) [] H Q := ⟨_, rfl, rfl, by rw [S_len]; omega, by rw [SX.upper_S h]; exact q⟩
theorem inV_S {s : List Nat} : ∀ {ls : List (List Nat)}, inV (.str (S s)) (ls.map fun a => V.str (S a)) = decide (s ∈ ls)
  | [] => rfl
  | a :: ls => by
    show (eqV (.str (S a)) (.str (S s)) || inV (.str (S s)) (ls.map fun a => V.str (S a))) = _
    rw [inV_S]
    show ((S a == S s) || _) = _
    rw [SX.S_beq_eq]
    by_cases h : a = s
    · subst h; simp
    · rw [decide_eq_false h, Bool.false_or]
      congr 1
      exact propext ⟨fun z => List.mem_cons_of_mem _ z, fun z => by
        rcases List.mem_cons.mp z with z | z
        · exact absurd z.symm h
        · exact z⟩
theorem flat_S : ∀ (ls : List (List Nat)), (ls.map fun a => V.str (S a)).all flatV = true
  | [] => rfl
  | a :: ls => flat_S ls
/-- a text in a tuple, a list of texts -/
theorem inT (ls : List (List Nat)) {p : Addr} {xs : List V} {s : List Nat} (h : SqT K H p xs) (e : xs = ls.map fun a => V.str (S a)) (q : Q (.bl (decide (s ∈ ls))) H) : rIn K false (.str (S s)) (.ref p) H Q := by
  subst e
  exact ⟨p, _, rfl, .inr h, rfl, flat_S ls, by rw [inV_S]; exact q⟩
theorem inL (ls : List (List Nat)) {p : Addr} {xs : List V} {s : List Nat} (h : SqL K H p xs) (e : xs = ls.map fun a => V.str (S a)) (q : Q (.bl (decide (s ∈ ls))) H) : rIn K false (.str (S s)) (.ref p) H Q := by
  subst e
  exact ⟨p, _, rfl, .inl h, rfl, flat_S ls, by rw [inV_S]; exact q⟩
/-- a sign in a text -/
def rInSign : R2 := fun x y H Q => ∃ (c : Nat) (z : Str), x = .str ⟨#[c]⟩ ∧ y = .str z ∧ Q (.bl (decide (c ∈ z.cps.toList))) H
theorem op_inSign {X : Cx} : OpR X (compareOp .In) rInSign := op_in_sign
theorem inSign (q : Q (.bl (decide (c ∈ l))) H) : rInSign (.str (S [c])) (.str (S l)) H Q := ⟨c, S l, rfl, rfl, q⟩
theorem ixK {nm : Str} {mg : MG} {ls : List (Str × V)} {s : Str} {v : V} (h : KDc K w mg nm ls) (m : (s, v) ∈ ls) (q : Q v H) : rIxD K w (.ref (ca mg nm)) (.str s) H Q := ⟨_, _, _, rfl, rfl, h.s _ m, q⟩
/-- displays of one and two pairs -/
theorem disp1 {a : Str} {v : V} (q : ∀ p, H p = none → Q (.ref p) (upd (upd H p (.dK [])) p (.dK [(.inr a, v)]))) : tDisp [(tC (.str a), tC v)] σ H Q := fun p hp =>
  ⟨upd_same, [(.inr a, v)], rfl, show 1 ≤ 15 by decide, q p hp⟩
theorem disp2 {a b : Str} {v u : V} (ne : ¬ a = b) (q : ∀ p, H p = none → Q (.ref p) (upd (upd H p (.dK [])) p (.dK [(.inr a, v), (.inr b, u)]))) : tDisp [(tC (.str a), tC v), (tC (.str b), tC u)] σ H Q := fun p hp =>
  ⟨upd_same, [(.inr a, v), (.inr b, u)], rfl, show 2 ≤ 15 by decide, by
    have e : mergeK [] [((Sum.inr a : Key), v), ((Sum.inr b : Key), u)] = [((Sum.inr a : Key), v), ((Sum.inr b : Key), u)] := by
      show putK (putK ([] : List (Key × V)) (Sum.inr a) v) (Sum.inr b) u = _
      have e1 : putK ([] : List (Key × V)) (Sum.inr a) v = [((Sum.inr a : Key), v)] := rfl
      rw [e1]
      unfold putK
      rw [if_neg (by simp [ne])]
      rfl
    rw [e]; exact q p hp⟩
theorem same_disp {p : Addr} {o u : HO} (hp : H p = none) : Same H (upd (upd H p o) p u) := fun b x e => by
  rw [upd_ne (ne_of_none e hp), upd_ne (ne_of_none e hp)]; exact e
end
end WP
namespace WP
open PySem PySem.Spec PyProof.Rows L2
theorem bm0 {K : PySem.W.Frag} {σ : L2.St} {H : Hp} {Q : VK} {T : String} {r : V → List V → Hp → VK → Prop} {to : TE} (h : to σ H fun x H1 => tyV K T x H1 ∧ r x [] H1 Q) : tBM0 K T r to σ H Q := h
/-- a for over the signs of a text -/
theorem for_txt {l : List Nat} {g : TG} {tb : TS} {D : Ends} {σ : L2.St} {H : Hp} (Pv : Nat → L2.St → Hp → Prop) (h0 : Pv 0 σ H)
    (hs : ∀ i c σ H, l[i]? = some c → Pv i σ H → g (.str (SX.S [c])) σ H fun σ2 H2 => tb { D with nx := Pv (i + 1), ct := Pv (i + 1), bk := D.nx } σ2 H2) (hd : ∀ σ H, Pv l.length σ H → D.nx σ H) :
    ∃ W : Nat → Nat → L2.St → Hp → Prop, (∃ m, W 0 m σ H) ∧ ∀ i m σ H, W i m σ H →
      ((Its (SX.S l)).stop i H ∧ D.nx σ H) ∨ ((Its (SX.S l)).go i H ∧ ∃ N : L2.St → Hp → Prop, (∀ σ' H', N σ' H' → ∃ m', m' < m ∧ W (i + 1) m' σ' H') ∧ ∀ x H', (Its (SX.S l)).yld i H x H' → g x σ H' fun σ2 H2 => tb { D with nx := N, ct := N, bk := D.nx } σ2 H2) := by
  have e : (SX.S l).cps.size = l.length := by simp [SX.S]
  refine for_it walk_str Pv h0 (fun _ _ _ _ _ => True.intro) (fun i x σ H H' hi p y => ?_) fun σ H p => hd σ H (by rw [← e]; exact p)
  obtain ⟨rfl, c, hc, rfl⟩ := y
  refine hs i c σ H' ?_ p
  simpa [SX.S] using hc
end WP
namespace WP
open PySem PySem.Spec PyProof.Rows L2
theorem pe_kdict {X : Cx} {x : Str} {xs : List (Str × V)} {pos : Pos} (hg : Gl X x) (h : KDc X.K X.w X.mg x xs) (hd : (x == ("__debug__" : Str)) = false := by decide) : PE X (.Name x pos) (tC (.ref (ca X.mg x))) := pe_glob hg h.m rfl hd
end WP
namespace WP
open PySem PySem.Spec PyProof.Rows L2
theorem lc {wi : TI} {g : TG} {tt : TT} {te : TE} {vs : List Nat} {σ : L2.St} {H : Hp} {Q : VK} (h : wi σ H fun J H1 => ∀ D, H1 D = none → ∃ W : Nat → Nat → Hp → Prop, (∃ m, W 0 m (upd H1 D (.lst []))) ∧ ∀ i m H, W i m H →
    (J.stop i H ∧ Q (.ref D) H) ∨ (J.go i H ∧ ∃ Nx : Hp → Prop, (∀ H', Nx H' → ∃ m', m' < m ∧ W (i + 1) m' H') ∧ ∀ x H', J.yld i H x H' → g x (wipe σ vs) H' fun σ2 H2 => wipe σ2 vs = wipe σ vs ∧ tt σ2 H2 fun b H3 =>
      if b = true then te σ2 H3 fun y H4 => ∃ acc, H4 D = some (.lst acc) ∧ acc.length < sizeLine ∧ Nx (upd H4 D (.lst (acc ++ [y]))) else Nx H3)) : tLc wi g tt te vs σ H Q := h
theorem lc_txt {l : List Nat} {g : TG} {tt : TT} {te : TE} {vs : List Nat} {σ : L2.St} {H1 : Hp} {D : Addr} {Qd : Hp → Prop} (Pv : Nat → Hp → Prop) (h0 : Pv 0 (upd H1 D (.lst [])))
    (hs : ∀ i c H, l[i]? = some c → Pv i H → g (.str (SX.S [c])) (wipe σ vs) H fun σ2 H2 => wipe σ2 vs = wipe σ vs ∧ tt σ2 H2 fun b H3 =>
      if b = true then te σ2 H3 fun y H4 => ∃ acc, H4 D = some (.lst acc) ∧ acc.length < sizeLine ∧ Pv (i + 1) (upd H4 D (.lst (acc ++ [y]))) else Pv (i + 1) H3) (hd : ∀ H, Pv l.length H → Qd H) :
    ∃ W : Nat → Nat → Hp → Prop, (∃ m, W 0 m (upd H1 D (.lst []))) ∧ ∀ i m H, W i m H →
      ((Its (SX.S l)).stop i H ∧ Qd H) ∨ ((Its (SX.S l)).go i H ∧ ∃ Nx : Hp → Prop, (∀ H', Nx H' → ∃ m', m' < m ∧ W (i + 1) m' H') ∧ ∀ x H', (Its (SX.S l)).yld i H x H' → g x (wipe σ vs) H' fun σ2 H2 => wipe σ2 vs = wipe σ vs ∧ tt σ2 H2 fun b H3 =>
        if b = true then te σ2 H3 fun y H4 => ∃ acc, H4 D = some (.lst acc) ∧ acc.length < sizeLine ∧ Nx (upd H4 D (.lst (acc ++ [y]))) else Nx H3) := by
  have e : (SX.S l).cps.size = l.length := by simp [SX.S]
  refine lc_it walk_str Pv h0 (fun _ _ _ _ => True.intro) (fun i x H H' hi p y => ?_) fun H p => hd H (by rw [← e]; exact p)
  obtain ⟨rfl, c, hc, rfl⟩ := y
  refine hs i c H' ?_ p
  simpa [SX.S] using hc
theorem at_S {ls : List (List Nat)} {i : Int} (h0 : 0 ≤ i) (h1 : i < (ls.length : Int)) : ∃ a ∈ ls, atI (ls.map fun a => V.str (SX.S a)) i = some (.str (SX.S a)) := by
  obtain ⟨j, rfl⟩ : ∃ j : Nat, i = (j : Int) := ⟨i.toNat, by omega⟩
  have hj : j < ls.length := by omega
  exact ⟨ls[j], List.getElem_mem hj, atI_nat (by rw [List.getElem?_map, List.getElem?_eq_getElem hj]; rfl)⟩
end WP
namespace WP
open PySem PySem.Spec PyProof.Rows L2
theorem dget2 {td ty tx : TE} {σ : L2.St} {H : Hp} {Q : VK} (h : td σ H fun x H1 => ∃ a, x = .ref a ∧ IsD H1 a ∧ ty σ H1 fun y H2 => tx σ H2 fun z H3 => ∃ o, DGet H3 a y o ∧ Q (o.getD z) H3) : tDGet2 td ty tx σ H Q := h
theorem dget {td ty : TE} {σ : L2.St} {H : Hp} {Q : VK} (h : td σ H fun x H1 => ty σ H1 fun y H2 => ∃ a v, x = .ref a ∧ DGet H2 a y (some v) ∧ Q v H2) : tDGet td ty σ H Q := h
theorem at_I {ls : List Int} {i : Int} (h0 : 0 ≤ i) (h1 : i < (ls.length : Int)) : ∃ a, atI (ls.map V.int) i = some (.int a) := ⟨_, at_ints h0 h1⟩
theorem valV1 {a c : List Nat} {v : V} : valV [((Sum.inr (SX.S a) : Key), v)] (Sum.inr (SX.S c)) = if a = c then some v else none := by
  by_cases h : a = c
  · subst h; rw [if_pos rfl]; exact valV_pos rfl
  · rw [if_neg h]; exact (valV_neg fun e => h (SX.S_inj (Sum.inr.inj e))).trans valV_nil
theorem valV2 {a b c : List Nat} {v u : V} : valV [((Sum.inr (SX.S a) : Key), v), ((Sum.inr (SX.S b) : Key), u)] (Sum.inr (SX.S c)) = if a = c then some v else if b = c then some u else none := by
  by_cases h : a = c
  · subst h; rw [if_pos rfl]; exact valV_pos rfl
  · rw [if_neg h]; exact (valV_neg fun e => h (SX.S_inj (Sum.inr.inj e))).trans valV1
end WP
namespace WP
open PySem PySem.Spec PyProof.Rows L2
theorem andOr {σ : L2.St} {H : Hp} {Q : VK} {ta tb tc : TE} {x y z : Bool} (ha : ∀ Q : VK, Q (.bl x) H → ta σ H Q) (hb : ∀ Q : VK, Q (.bl y) H → tb σ H Q) (hc : ∀ Q : VK, Q (.bl z) H → tc σ H Q)
    (q : Q (.bl (x && (y || z))) H) : tAndV ta (tOrV tb tc) σ H Q := by
  refine WP.andV (ha _ ⟨x, rfl, ?_⟩)
  cases x with
  | false => exact q
  | true =>
    refine WP.brT rfl (WP.orV (hb _ ⟨y, rfl, ?_⟩))
    cases y with
    | true => exact q
    | false => exact WP.brF rfl (hc _ q)
end WP
namespace WP
open PySem PySem.Spec PyProof.Rows L2
def rNotInSign : R2 := fun x y H Q => ∃ (c : Nat) (z : Str), x = .str ⟨#[c]⟩ ∧ y = .str z ∧ Q (.bl (!decide (c ∈ z.cps.toList))) H
theorem op_notInSign {X : Cx} : OpR X (compareOp .NotIn) rNotInSign := op_notIn_sign
theorem notInSign {c : Nat} {l : List Nat} {H : Hp} {Q : VK} (q : Q (.bl (!decide (c ∈ l))) H) : rNotInSign (.str (SX.S [c])) (.str (SX.S l)) H Q := ⟨c, SX.S l, rfl, rfl, q⟩
end WP
namespace WP
open PySem PySem.Spec PyProof.Rows L2
theorem chain {r r' : R2} {ta tb tc : TE} {σ : L2.St} {H : Hp} {Q : VK} (h : ta σ H fun x H1 => tb σ H1 fun y H2 => r x y H2 fun z H3 => ∃ k, z = .bl k ∧ (if k = true then tc σ H3 fun w' H4 => r' y w' H4 Q else Q (.bl false) H3)) : tChain r r' ta tb tc σ H Q := h
theorem notInL {K : PySem.W.Frag} {H : Hp} {Q : VK} (ls : List (List Nat)) {p : Addr} {xs : List V} {s : List Nat} (h : SqL K H p xs) (e : xs = ls.map fun a => V.str (SX.S a)) (q : Q (.bl (!decide (s ∈ ls))) H) : rIn K true (.str (SX.S s)) (.ref p) H Q := by
  subst e
  exact ⟨p, _, rfl, .inl h, rfl, flat_S ls, by rw [inV_S]; exact q⟩
end WP
namespace WP
open PySem PySem.Spec PyProof.Rows L2
theorem yes {σ : L2.St} {H : Hp} {t : Hp → Prop} {u : Hp → Prop} (h : t H) : tYes σ H (fun b H3 => if b = true then t H3 else u H3) := by
  show (if true = true then t H else u H)
  rw [if_pos rfl]; exact h
end WP
namespace WP
open PySem PySem.Spec PyProof.Rows L2
/-- text[i:j], both from the front -/
theorem slice_both {l : List Nat} {i j : Int} (h0 : 0 ≤ i) (h1 : i ≤ j) : Txt.slice (SX.S l) (some i) (some j) = SX.S ((l.drop i.toNat).take (j - i).toNat) := by
  have hl : ((SX.S l).length : Int) = (l.length : Int) := by rw [SX.S_len]
  by_cases hj : j ≤ (l.length : Int)
  · exact beq_iff_eq.mp (PyProof.Rows.slice_closesL (x := SX.S l) h0 h1 (by omega))
  · have e2 : Txt.slice (SX.S l) (some i) (some j) = Txt.slice (SX.S l) (some i) (some (l.length : Int)) := by
      unfold Txt.slice
      rw [SX.S_len, SX.idx_hi (by omega)]
    rw [e2]
    by_cases hi : i ≤ (l.length : Int)
    · have e := beq_iff_eq.mp (PyProof.Rows.slice_closesL (x := SX.S l) (j := (l.length : Int)) h0 hi (by omega))
      refine e.trans ?_
      show SX.S ((l.drop i.toNat).take ((l.length : Int) - i).toNat) = _
      rw [List.take_of_length_le (by rw [List.length_drop]; omega), List.take_of_length_le (by rw [List.length_drop]; omega)]
    · have e3 : Txt.slice (SX.S l) (some i) (some (l.length : Int)) = SX.S [] := by
        have hb := PyProof.Rows.slice_beyond (x := SX.S l) (i := i) (by omega)
        have hf := SX.slice_from (a := l) h0
        have e4 : Txt.slice (SX.S l) (some i) (some (l.length : Int)) = Txt.slice (SX.S l) (some i) none := by
          unfold Txt.slice
          rw [SX.S_len]
          have a1 : ¬ ((l.length : Int) < 0) := by omega
          have a2 : (1 : Int) > 0 := by decide
          simp only [Builtin.Str.strSliceIndices, a1, a2, if_false, if_true, Int.min_self, Int.max_eq_right (Int.natCast_nonneg l.length)]
        rw [e4, hf, List.drop_eq_nil_of_le (by omega)]
      rw [e3, List.drop_eq_nil_of_le (by omega), List.take_nil]
theorem slBoth {l : List Nat} {i j : Int} {H : Hp} {Q : VK} (h0 : 0 ≤ i) (h1 : i ≤ j) (h : l.length ≤ sizeLine) (q : Q (.str (SX.S ((l.drop i.toNat).take (j - i).toNat))) H) : rSlS (.str (SX.S l)) (some i) (some j) H Q := slS _ (by rw [SX.S_len]; exact h) (by rw [slice_both h0 h1]; exact q)
end WP
namespace WP
open PySem PySem.Spec PyProof.Rows L2
theorem m_lstripC {X : Cx} : MtR X "str.lstrip" (fun x xs H Q => ∃ a b, x = .str a ∧ xs = [.str b] ∧ a.length ≤ sizeLine ∧ Q (.str (Txt.lstripChars a b)) H) := mt_lstripChars
end WP
namespace WP
open PySem PySem.Spec PyProof.Rows L2
/-- in a comprehension's block: the fragment and the module named -/
theorem pe_ktupK {X : Cx} {K : PySem.W.Frag} {mg : MG} {x : Str} {xs : List V} {pos : Pos} (hg : Gl X x) (h : KTp K mg x xs) (hK : X.K = K) (hm : X.mg = mg) (hd : (x == ("__debug__" : Str)) = false := by decide) : PE X (.Name x pos) (tC (.ref (ca mg x))) := by
  subst hK hm
  exact pe_ktup hg h hd
theorem op_inK {X : Cx} {K : PySem.W.Frag} (h : X.K = K) : OpR X (compareOp .In) (rIn K false) := by subst h; exact op_in_seq
theorem op_notInK {X : Cx} {K : PySem.W.Frag} (h : X.K = K) : OpR X (compareOp .NotIn) (rIn K true) := by subst h; exact op_notIn_seq
end WP
namespace WP
open PySem PySem.Spec PyProof.Rows L2
theorem notInT {K : PySem.W.Frag} {H : Hp} {Q : VK} (ls : List (List Nat)) {p : Addr} {xs : List V} {s : List Nat} (h : SqT K H p xs) (e : xs = ls.map fun a => V.str (SX.S a)) (q : Q (.bl (!decide (s ∈ ls))) H) : rIn K true (.str (SX.S s)) (.ref p) H Q := by
  subst e
  exact ⟨p, _, rfl, .inr h, rfl, flat_S ls, by rw [inV_S]; exact q⟩
end WP

namespace WP
open PySem PySem.Spec PyProof.Rows L2 GxR
section
variable {X : Cx} {pins : List (Addr × Obj)} {σ : L2.St} {H : Hp} {s : Shared}
/-- the generator expression's scope in the def's scope sc -/
structure GenSc (sc scope : Scope) (x : Str) : Prop where
  kind : scope.kind = .function
  co : scope.isCoroutine = false
  cell : ∀ y ∈ scope.names, y.2 ≠ .cell
  dot : scope.names.lookup (".0" : Str) = some NameKind.local
  loc : scope.names.lookup x = some .local
  free : ∀ y ∈ scope.names, y.2 = .free → sc.names.lookup y.1 = some .cell ∨ sc.names.lookup y.1 = some .free
def gscB (sc scope : Scope) (x : Str) : Bool :=
  decide (scope.kind = .function) && !scope.isCoroutine && scope.names.all (fun y => !decide (y.2 = .cell)) && decide (scope.names.lookup (".0" : Str) = some NameKind.local) && decide (scope.names.lookup x = some .local) &&
    scope.names.all (fun y => !decide (y.2 = .free) || decide (sc.names.lookup y.1 = some .cell ∨ sc.names.lookup y.1 = some .free))
theorem gsc_by {sc scope : Scope} {x : Str} (h : gscB sc scope x = true) : GenSc sc scope x := by
  unfold gscB at h
  simp only [Bool.and_eq_true, Bool.not_eq_true', decide_eq_true_eq, List.all_eq_true, Bool.or_eq_true, decide_eq_false_iff_not] at h
  obtain ⟨⟨⟨⟨⟨h1, h2⟩, h3⟩, h4⟩, h5⟩, h6⟩ := h
  exact ⟨h1, h2, h3, h4, h5, fun y hy e => (h6 y hy).elim (fun z => absurd e z) id⟩
/-- what the walked thing xv gives in the state s1: n items, the i-th one as Pf tells -/
def ItOk (X : Cx) (P : Addr) (s1 : Shared) (xv : Value) (n : Nat) (Pf : Nat → Value → Prop) : Prop :=
  ∃ fpx : List Addr, (∀ b ∈ fpx, b < s1.heap.objs.size ∧ b ≠ P) ∧ ∀ (Q : Value → Shared → Prop),
    (∀ (o : Obj) (St : Nat → Heap → Prop), (∀ A' : Around, A'.handled = none → Walks X.prog X.w A' s1.heap.objs.size (s1.heap.objs.size :: fpx) [s1.heap.objs.size] n Pf St) → St 0 (s1.heap.push o) →
      Q (.ref s1.heap.objs.size) { s1 with heap := s1.heap.push o }) → wpAny (model X.prog X.w) X.A (pyIter xv) Q X.xe s1
theorem itOk_str {P : Addr} {s1 : Shared} {a : Str} {t : Tok} : ItOk X P s1 (.str a t) a.cps.size (SignAt a) :=
  ⟨[], (fun b hb => by cases hb), fun Q h => wpAny_pyIter_str fun o St W hst => h o St W hst⟩
theorem itOk_list {P : Addr} {s1 : Shared} {q : Addr} {its : Array Value} (hl : s1.heap.IsList q its) (hP : q ≠ P) : ItOk X P s1 (.ref q) its.size (fun i v => its[i]? = some v) := by
  obtain ⟨ol, hol, _⟩ := _root_.id hl
  have hlt := Heap.lt_size hol
  refine ⟨[q], fun b hb => ?_, fun Q h => wpAny_pyIter_list hl (h _ _ (fun A' hA => Walks.list hA _ q (Nat.ne_of_lt hlt) its) ⟨⟨_, Heap.get?_push_size _ rfl, rfl, rfl⟩, hl.push _⟩)⟩
  rcases List.mem_cons.mp hb with z | z
  · rw [z]; exact ⟨hlt, hP⟩
  · cases z
/-- the element in the generator's own frame -/
def EltG (X : Cx) (P : Addr) (scope : Scope) (x : Str) (elt : Expr) (s1 : Shared) (Pf : Nat → Value → Prop) (pb : Nat → Bool) : Prop :=
  ∀ (cenv : Env) (A' : Around) (E' : Value → Shared → Prop) (i : Nat) (v : Value) (s₂ : Shared) (m₂ : Str → Option Value), cenv.scope = scope → cenv.globals = X.env.globals → cenv.cells = cloFrom X.env.cells scope.names [] → A'.handled = none → Pf i v →
    s₂.heap.Ns cenv.locals m₂ → m₂ x = some v → (∀ b u, b ≠ P → s1.heap.get? b = some u → s₂.heap.get? b = some u) →
    wpAny (model X.prog X.w) A' (eval elt cenv) (fun y s₃ => y = .bool (pb i) ∧ Keeps s₂ s₃) E' s₂
def ReadyN (X : Cx) (pins : List (Addr × Obj)) (σ : L2.St) (H1 : Hp) (P : Addr) (n : Nat) (pb : Nat → Bool) (g : Addr) (s5 : Shared) : Prop :=
  ∃ (fp wr : List Addr) (G : Array GenState → Array GenState → Prop) (F : Nat → Value → Prop) (St : Nat → Shared → Prop),
    WalksS X.prog X.w X.A.in1 g fp wr G n F St ∧ St 0 s5 ∧ TruthOf X.prog X.w X.A.in1 F pb ∧ ∀ s', Moved wr G s5 s' → ∃ H2, Tabbed P H1 H2 ∧ Inv X pins σ H2 s'
theorem gen_go {c P : Addr} {elt iter : Expr} {x : Str} {px gpos : Pos} {scope : Scope} {te : TE} {k : Nat} {Q' : Value → Shared → Prop} {R : V → Hp → Prop}
    (hr : Room k X.A) (TB : TabB X.base X.mg c P) (hcode : X.env.code = .ref c) (S : GenSc X.env.scope scope x) (hi : PE X iter te)
    (hs : ∀ v, genFold iter X.env v = pure v) (I : Inv X pins σ H s) (h : te σ H fun v H1 => TabG H1 P ∧ R v H1)
    (hw : ∀ v xv H1 s1, TabG H1 P → R v H1 → RelV v xv → Inv X pins σ H1 s1 → ∃ n Pf pb, ItOk X P s1 xv n Pf ∧ EltG X P scope x elt s1 Pf pb ∧ ∀ g s5, ReadyN X pins σ H1 P n pb g s5 → Q' (.ref g) s5) :
    wpAny (model X.prog X.w) X.A (eval (.GeneratorExp elt [⟨.Name x px, iter, [], 0⟩] scope gpos) X.env) Q' X.xe s := by
  refine wpAny_GeneratorExp_walksQ hr.hd S.co (closure_ok fun y hy e => I.ok.has y.1 (S.free y hy e)) S.cell S.dot S.loc S.kind (by have := hr.dp; omega) ?_ hs
  refine thn (hi.run pins s σ H _ I h) fun xv s1 ⟨v, H1, I1, r1, ⟨ps, hP, ht⟩, q1⟩ => ?_
  obtain ⟨n, Pf, pb, ⟨fpx, hfpx, hIt⟩, hel, hQ⟩ := hw v xv H1 s1 ⟨ps, hP, ht⟩ q1 r1 I1
  refine hIt _ fun o St W hst => ?_
  have hPs : s1.heap.get? P = some { cls := .none, data := .fields ps } := I1.hok P _ hP
  have hPlt : P < s1.heap.objs.size := Heap.lt_size hPs
  have hP2 : (s1.heap.push o).get? P = some { cls := .none, data := .fields ps } := Heap.get?_push_of_some _ hPs
  have cd : PySem.W.CodeHd (s1.heap.push o) c P := TB.code.keeps fun b u e => Heap.get?_push_of_some _ (I1.bk b u e)
  have lim2 : (s1.heap.push o).NoLimit := I1.nolimit.push o
  have cont : ∀ (code : Value) (h3 : Heap) (tk : Nat) (ps' : Array Value), Heap.ExtBut P (s1.heap.push o) h3 → (s1.heap.push o).objs.size ≤ h3.objs.size → h3.get? P = some { cls := .none, data := .fields ps' } → (∃ more, ps' = ps ++ more) → TriplesOk ps'.toList →
      wpAny (model X.prog X.w) X.A (builtinsFor X.env.globals X.env.builtins) (fun bi s₄ =>
        ∃ Ia fp wr n₀ Pf St₀ pz F, Value.ref s1.heap.objs.size = .ref Ia ∧ (∀ A' : Around, A'.handled = none → Walks X.prog X.w A' Ia fp wr n₀ Pf St₀) ∧ St₀ 0 s₄.heap ∧ (∀ b ∈ fp, b < s₄.heap.objs.size) ∧ s₄.heap.NoLimit ∧ cStatics ∉ wr ∧
          (∀ href : Heap, (∀ b o, s₄.heap.get? b = some o → href.get? b = some o) →
            QuietGen X.prog X.w (genEnv scope (cloFrom X.env.cells scope.names []) s₄.heap.objs.size code bi X.env) x [] elt (List.range s₄.heap.objs.size) wr Pf pz F href) ∧
          (∀ a h₅ tk gs, gs.bare = true → s₄.heap.objs.size < a → h₅.objs.size = a + 1 → (∀ b o, s₄.heap.get? b = some o → h₅.get? b = some o) →
            WalksS X.prog X.w X.A.in4 a (a :: s₄.heap.objs.size :: List.range s₄.heap.objs.size) (s₄.heap.objs.size :: wr) (GenOnlyQ s₄.gens.size) (passing pz n₀ 0).length
              (fun j y => ∃ i, (passing pz n₀ 0)[j]? = some i ∧ F i y) (GenAt X.prog X.w X.A.in4 a s₄.gens.size s₄.heap.objs.size (List.range s₄.heap.objs.size) wr pz n₀ F) →
            GenAt X.prog X.w X.A.in4 a s₄.gens.size s₄.heap.objs.size (List.range s₄.heap.objs.size) wr pz n₀ F 0 { s₄ with gens := s₄.gens.push gs, toks := tk, heap := h₅ } →
            Q' (.ref a) { s₄ with gens := s₄.gens.push gs, toks := tk, heap := h₅ })) X.xe { s1 with heap := h3, toks := tk } := by
    intro code h3 tk ps' hx hsz hP3 hmore ht3
    obtain ⟨bm, ob, e1, e2, e3, e4, e5, e6, e7, e8⟩ := TB.bm
    have hcP : cStatics ≠ P := fun e => by
      obtain ⟨_, hns, _⟩ := I1.nolimit
      obtain ⟨o', es, ep, ho, hd, _⟩ := hns
      rw [e, hPs] at ho
      cases ho
      cases hd
    have hcl : cStatics < s1.heap.objs.size := let ⟨_, hns, _⟩ := I1.nolimit; hns.lt
    have sz2 : (s1.heap.push o).objs.size = s1.heap.objs.size + 1 := Heap.size_push ..
    have le3 : s1.heap.objs.size ≤ h3.objs.size := Nat.le_trans (Nat.le_succ _) (by have e := sz2; rw [e] at hsz; exact hsz)
    have keep3 : ∀ b u, b ≠ P → s1.heap.get? b = some u → h3.get? b = some u := fun b u hb e => hx b u hb (Heap.get?_push_of_some _ e)
    refine wpAny_builtinsFor (m := X.mg) (by rw [I1.ok.glob]; exact ((I1.mod.glob.keeps I1.bk).push o).extBut hx TB.gP) e1 e2 (keep3 _ _ e4 (I1.bk _ _ e5)) e6 e7 e8 ?_
    refine ⟨s1.heap.objs.size, s1.heap.objs.size :: fpx, [s1.heap.objs.size], n, Pf, St, (fun _ => true), (fun i y => y = .bool (pb i)), rfl, W, ?_, ?_, lim2.extBut hx hcP, ?_, ?_, ?_⟩
    · refine (W X.A hr.hd).frame _ _ _ hst fun b hb u e => hx b u (fun z => ?_) e
      rcases List.mem_cons.mp hb with z2 | z2
      · exact Nat.ne_of_lt hPlt (z.symm.trans z2)
      · exact (hfpx b z2).2 z
    · intro b hb
      rcases List.mem_cons.mp hb with z | z
      · rw [z]
        show s1.heap.objs.size < h3.objs.size
        omega
      · exact Nat.lt_of_lt_of_le (hfpx b z).1 le3
    · intro z
      rcases List.mem_cons.mp z with z | z
      · exact Nat.ne_of_lt hcl z
      · cases z
    · intro href hhref
      refine ⟨fun A' E' i v s₂ m₂ hA hPv hn hm hk => ?_, fun A' E' i v s₂ m₂ hA hPv hp hn hm hk => ?_⟩
      · simp only [List.forIn_nil]
        exact wpAny_pure ⟨rfl, keeps_refl _⟩
      · refine hel _ A' E' i v s₂ m₂ rfl rfl rfl hA hPv hn hm fun b u hb e => ?_
        have hlt := Heap.lt_size e
        refine hk b (List.mem_range.mpr ?_) (fun z => ?_) u (hhref b u (keep3 b u hb e))
        · exact Nat.lt_of_lt_of_le hlt le3
        · rcases List.mem_cons.mp z with z | z
          · exact Nat.ne_of_lt hlt z
          · cases z
    · intro g h5 tk5 gs hgb hag hsz5 hk5 W5 hat
      simp only [GxR.passing_true, List.length_range] at W5
      refine hQ g _ ⟨_, _, _, _, _, W5.in4_1, hat, ?_, fun s' hm => ?_⟩
      · intro j y sj Qj Ej hy hQj
        obtain ⟨i, hij, rfl⟩ := hy
        obtain ⟨hj, ej⟩ := List.getElem?_eq_some_iff.mp hij
        rw [List.getElem_range] at ej
        subst ej
        exact wpAny_truthy_bool hQj
      · obtain ⟨more, em⟩ := hmore
        have nwr : ∀ b u, s1.heap.get? b = some u → b ∉ h3.objs.size :: [s1.heap.objs.size] := fun b u e hb => by
          have hl := Heap.lt_size e
          rcases List.mem_cons.mp hb with z | z
          · rw [z] at hl
            have h9 : (h3.objs.size : Nat) < s1.heap.objs.size := hl
            omega
          · rcases List.mem_cons.mp z with z | z
            · rw [z] at hl
              exact Nat.lt_irrefl _ hl
            · cases z
        have J := inv_tab (more := more) (h' := s'.heap) (g' := s'.gens) (d' := s'.drawn) (t' := s'.toks) I1 hP (fun b u hb e => hm.heap b u (nwr b u e) (hk5 b u (keep3 b u hb e)))
          (by rw [← em]; exact hm.heap P _ (nwr P _ hPs) (hk5 P _ hP3)) (AllBare.movedS (I1.bare.push hgb) hm)
        rw [sh_eta s1 s' hm.os] at J
        refine ⟨upd H1 P (.tbl (ps ++ more)), ⟨⟨ps ++ more, upd_same, by rw [← em]; exact ht3⟩, fun b hb => upd_ne hb⟩, J⟩
  refine ⟨lim2, ?_⟩
  cases hf : codeAmong gpos ps.toList with
  | none =>
    refine wpAny_genexprCodeX hcode (cd.code hP2 ht) (cd.tab hP2) hf fun c' h' tk hx hge hlt hco' _ htab' _ => ?_
    obtain ⟨o1, vs, f1, tf, fl, tg, inF, tx, tt, op, _, _, _, _, _, _, _, _, _, htr, _⟩ := hco'
    exact cont _ h' tk _ hx (Nat.le_trans hge (Nat.le_of_lt hlt)) htab'.2 ⟨_, rfl⟩ htr
  | some cv =>
    refine wpAny_genexprCode_hit hcode (cd.code hP2 ht) hf ?_
    exact cont cv (s1.heap.push o) s1.toks ps (Heap.ExtBut.refl _ _) (Nat.le_refl _) hP2 ⟨#[], by simp⟩ ht
/-- cells of the def, seen from the generator -/
theorem clo_look {cells : List (Str × Addr)} {names : List (Str × NameKind)} {y : Str} {c : Addr} (hf : (y, NameKind.free) ∈ names) (hc : cells.lookup y = some c) : (cloFrom cells names []).lookup y = some c := by
  have h := cloFrom_has (cells := cells) (acc := []) hf
  obtain ⟨c', hc'⟩ := L2.mem_lookup h
  rw [hc']
  rcases cloFrom_mem (PySem.mem_of_lookup hc') with z | ⟨_, z⟩
  · cases z
  · rw [z, hc]; rfl
def trI (pb : Int → Bool) (l : List Int) (j : Nat) : Bool := match l[j]? with
  | some b => pb b
  | none => false
theorem trI_some {pb : Int → Bool} {l : List Int} {j : Nat} {b : Int} (h : l[j]? = some b) : trI pb l j = pb b := by
  unfold trI
  rw [h]
theorem all_trI (l : List Int) (pb : Int → Bool) : (List.range l.length).all (trI pb l) = l.all pb := by
  rw [Bool.eq_iff_iff, List.all_eq_true, List.all_eq_true]
  constructor
  · intro h b hb
    obtain ⟨j, hj, e⟩ := List.getElem_of_mem hb
    have q := h j (List.mem_range.mpr hj)
    rw [trI_some (List.getElem?_eq_getElem hj), e] at q
    exact q
  · intro h j hj
    have hj' := List.mem_range.mp hj
    rw [trI_some (List.getElem?_eq_getElem hj')]
    exact h _ (List.getElem_mem hj')
/-- x in y, y a captured text -/
theorem elt_in {P : Addr} {scope : Scope} {x y : Str} {p1 p2 p3 : Pos} {H1 : Hp} {s1 : Shared} {a z : Str} {i : Nat} (I1 : Inv X pins σ H1 s1) (hP : ∃ ps : Array Value, H1 P = some (.tbl ps))
    (hN : X.N[i]? = some y) (hv : σ[i]? = some (some (.str z))) (hk : X.env.scope.names.lookup y = some .cell) (hfr : (y, NameKind.free) ∈ scope.names) (hl : scope.names.lookup x = some .local) (hy : scope.names.lookup y = some .free) (hkd : scope.kind = .function)
    (hd : (x == ("__debug__" : Str)) = false := by decide) (hd2 : (y == ("__debug__" : Str)) = false := by decide) (hcd : (y == ("__classdict__" : Str)) = false := by decide) (hm : behindInMarks .In (.Name y p2) = false := by with_unfolding_all rfl) :
    EltG X P scope x (.Compare (.Name x p1) [.In] [.Name y p2] p3) s1 (SignAt a) (trF (fun c => decide (c ∈ z.cps.toList)) a.cps.toList) := by
  intro cenv A' E' j v s₂ m₂ e1 e2 e3 hA hPf hn hmx hkp
  obtain ⟨c, t, hc, rfl⟩ := hPf
  obtain ⟨m, hns, hloc⟩ := I1.loc
  obtain ⟨u, ru, lk⟩ := hloc i y _ hN hv (.inr (.inl hk))
  obtain ⟨t', rfl⟩ := _root_.id ru
  have hkk : X.env.kindOf y = some .cell := hk
  rcases lk with ⟨hk', _⟩ | ⟨_, cl, hcl, ⟨oc, hoc, hcd2⟩⟩
  · rw [hkk] at hk'; cases hk'
  have hcP : cl ≠ P := fun e => by
    obtain ⟨ps, hps⟩ := hP
    have q := I1.hok P _ hps
    have q' : s1.heap.get? P = some { cls := .none, data := .fields ps } := q
    rw [e, q'] at hoc
    cases hoc
    cases hcd2
  have ec : cenv.cells.lookup y = some cl := by rw [e3]; exact clo_look hfr hcl
  have hcell : s₂.heap.IsCell cl (some (.str z t')) := ⟨oc, hkp cl oc hcP hoc, hcd2⟩
  refine wpAny_Compare1 ?_ hm
  refine wpAny_Name (wpAny_loadName_local (by rw [e1]; exact hkd) (show cenv.scope.names.lookup x = some .local by rw [e1]; exact hl) hn hmx ?_) hd
  refine wpAny_Name (wpAny_loadName_free (by rw [e1]; exact hkd) (show cenv.scope.names.lookup y = some .free by rw [e1]; exact hy) ec hcell ?_ hcd) hd2
  refine PyProof.Rows.in_str ⟨?_, keeps_refl _⟩
  rw [trF_some (by rw [Array.getElem?_toList]; exact hc)]
  exact congrArg Value.bool (PySem.StrLaws.found_one z c)
/-- lo <= x <= hi and x != no, the three names of the module -/
theorem elt_rng {P : Addr} {scope : Scope} {x lo hi no : Str} {p1 p2 p3 p4 p5 p6 p7 p8 : Pos} {H1 : Hp} {s1 : Shared} {its : Array Value} {ns : List Int} {l h n : Int} {t1 t2 t3 : Tok} (I1 : Inv X pins σ H1 s1) (hP : ∃ ps : Array Value, H1 P = some (.tbl ps))
    (g1 : X.mg lo = some (.int l t1)) (g2 : X.mg hi = some (.int h t2)) (g3 : X.mg no = some (.int n t3)) (hv : Vals (ns.map V.int) its.toList)
    (hl : scope.names.lookup x = some .local) (k1 : scope.names.lookup lo = some .globalImplicit) (k2 : scope.names.lookup hi = some .globalImplicit) (k3 : scope.names.lookup no = some .globalImplicit) (hkd : scope.kind = .function)
    (d0 : (x == ("__debug__" : Str)) = false := by decide) (d1 : (lo == ("__debug__" : Str)) = false := by decide) (d2 : (hi == ("__debug__" : Str)) = false := by decide) (d3 : (no == ("__debug__" : Str)) = false := by decide) :
    EltG X P scope x (.BoolOp .And [.Compare (.Name lo p1) [.LtE, .LtE] [.Name x p2, .Name hi p3] p4, .Compare (.Name x p5) [.NotEq] [.Name no p6] p7] p8) s1 (fun i v => its[i]? = some v)
      (trI (fun c => decide (l ≤ c ∧ c ≤ h ∧ c ≠ n)) ns) := by
  intro cenv A' E' j v s₂ m₂ e1 e2 e3 hA hPf hn hmx hkp
  have hj : ∃ (c : Int) (tc : Tok), ns[j]? = some c ∧ v = .int c tc := by
    have hlen := hv.length
    obtain ⟨hjl, _⟩ := Array.getElem?_eq_some_iff.mp hPf
    have hj2 : j < ns.length := by simp only [List.length_map, Array.length_toList] at hlen; exact Nat.lt_of_lt_of_eq hjl hlen.symm
    obtain ⟨u, hu, ru⟩ := hv.get (i := j) (x := .int ns[j]) (by rw [List.getElem?_map, List.getElem?_eq_getElem hj2]; rfl)
    rw [Array.getElem?_toList, hPf] at hu
    cases hu
    obtain ⟨tc, rfl⟩ := ru
    exact ⟨_, tc, List.getElem?_eq_getElem hj2, rfl⟩
  obtain ⟨c, tc, hc, rfl⟩ := hj
  have kd : cenv.scope.kind = .function := by rw [e1]; exact hkd
  have gns : s₂.heap.Ns cenv.globals X.mg := by
    rw [e2, I1.ok.glob]
    obtain ⟨o, es, ep, ho, hd, r⟩ := I1.mod.glob.keeps I1.bk
    refine ⟨o, es, ep, hkp _ _ (fun e => ?_) ho, hd, r⟩
    obtain ⟨ps, hps⟩ := hP
    have q' : s1.heap.get? P = some { cls := .none, data := .fields ps } := I1.hok P _ hps
    rw [e, q'] at ho
    cases ho
    cases hd
  have ldx : ∀ {Q : Value → Shared → Prop} {pp : Pos}, Q (.int c tc) s₂ → wpAny (model X.prog X.w) A' (eval (.Name x pp) cenv) Q E' s₂ := fun q =>
    wpAny_Name (wpAny_loadName_local kd (show cenv.scope.names.lookup x = some .local by rw [e1]; exact hl) hn hmx q) d0
  have ldg : ∀ {y : Str} {val : Value} {Q : Value → Shared → Prop} {pp : Pos}, X.mg y = some val → scope.names.lookup y = some .globalImplicit → (y == ("__debug__" : Str)) = false → Q val s₂ → wpAny (model X.prog X.w) A' (eval (.Name y pp) cenv) Q E' s₂ := fun g k d q =>
    Calls.Name_function_global kd (show cenv.scope.names.lookup _ = some .globalImplicit by rw [e1]; exact k) (Calls.loadGlobal_global gns g q) d
  rw [trI_some hc]
  refine wpAny_And2 ?_
  refine Compare_chain (ldg g1 k1 d1 (chain_link (ldx (le_int ?_))))
  refine wpAny_truthy_bool ?_
  by_cases h1 : l ≤ c
  · rw [decide_eq_true h1]
    refine ite_tt (chain_last (ldg g2 k2 d2 (le_int ?_)))
    refine wpAny_truthy_bool ?_
    by_cases h2 : c ≤ h
    · rw [decide_eq_true h2]
      refine ite_tt (wpAny_Compare1 (ldx (ldg g3 k3 d3 (ne_int ?_))))
      refine ⟨?_, keeps_refl _⟩
      by_cases h3 : c = n
      · simp [h3]
      · simp [h1, h2, h3]
    · rw [decide_eq_false h2]
      exact ite_ff ⟨by simp [h2], keeps_refl _⟩
  · rw [decide_eq_false h1]
    refine ite_ff ?_
    refine wpAny_truthy_bool (ite_ff ⟨by simp [h1], keeps_refl _⟩)
/-- all(.. for x in e): the walked thing of the kind R, the answer b -/
theorem all_go {c P : Addr} {elt iter : Expr} {x : Str} {px p pos gpos : Pos} {scope : Scope} {te : TE} {Wf : V → Hp → L2.St → VK → Prop} {k : Nat}
    (hr : Room k X.A) (hg : Gl X "all") (hm : X.mg "all" = none) (hb : bootBuiltins "all" = some (.builtin "all")) (TB : TabB X.base X.mg c P) (hcode : X.env.code = .ref c) (S : GenSc X.env.scope scope x) (hi : PE X iter te)
    (hs : ∀ v, genFold iter X.env v = pure v)
    (he : starEach [.GeneratorExp elt [⟨.Name x px, iter, [], 0⟩] scope gpos] X.env = (false, eval (.GeneratorExp elt [⟨.Name x px, iter, [], 0⟩] scope gpos) X.env) :: starEach [] X.env)
    (hw : ∀ pins (σ : L2.St) (v : V) (xv : Value) (H1 : Hp) (s1 : Shared) (Q : VK), TabG H1 P → Wf v H1 σ Q → RelV v xv → Inv X pins σ H1 s1 → ∃ n Pf pb, ItOk X P s1 xv n Pf ∧ EltG X P scope x elt s1 Pf pb ∧ ∀ H2, Tabbed P H1 H2 → Q (.bl ((List.range n).all pb)) H2) :
    PE X (.Call (.Name "all" p) [.GeneratorExp elt [⟨.Name x px, iter, [], 0⟩] scope gpos] [] pos) (fun σ H Q => te σ H fun v H1 => TabG H1 P ∧ Wf v H1 σ Q) := by
  refine ⟨fun pins s σ H Q I h => ?_⟩
  refine wpAny_Call_Name_kw (ld_blt I hg hm hb ?_)
  refine PyProof.Rows.callWith_builtin1 ?_ he (by rfl)
  rw [he]
  show wpAny _ _ (spliced ((false, eval (.GeneratorExp elt [⟨.Name x px, iter, [], 0⟩] scope gpos) X.env) :: backTo pos (starEach [] X.env))) _ _ s
  refine Calls.spliced_cons (gen_go (R := fun v H1 => Wf v H1 σ Q) hr TB hcode S hi hs I h fun v xv H1 s1 hT q1 r1 I1 => ?_)
  obtain ⟨n, Pf, pb, h1, h2, h3⟩ := hw pins σ v xv H1 s1 Q hT q1 r1 I1
  refine ⟨n, Pf, pb, h1, h2, fun g s5 hG => ?_⟩
  obtain ⟨fp, wr, G, F, St, W, hst, htr, hI⟩ := hG
  refine Calls.spliced_nil ?_
  refine call_all_walkS (W.self 0 _ _ _ hst ⟨g, fp, wr, G, _, F, St, _, rfl, W, hst, htr, fun s' hmv => ?_⟩)
  obtain ⟨H2, hT, J⟩ := hI s' hmv
  exact ⟨.bl _, H2, J, rfl, h3 H2 hT⟩
/-- all(x in y for x in e), e and y texts; y the def's i-th name -/
def tAllC (P : Addr) (i : Nat) (te : TE) : TE := fun σ H Q => te σ H fun v H1 => TabG H1 P ∧ ∃ a z : Str, v = .str a ∧ σ[i]? = some (some (.str z)) ∧ ∀ H2, Tabbed P H1 H2 → Q (.bl (a.cps.toList.all fun c => decide (c ∈ z.cps.toList))) H2
theorem pe_allC {c P : Addr} {iter : Expr} {x y : Str} {px p pos gpos p1 p2 p3 : Pos} {scope : Scope} {te : TE} {k i : Nat}
    (hr : Room k X.A) (hg : Gl X "all") (hm : X.mg "all" = none) (hb : bootBuiltins "all" = some (.builtin "all")) (TB : TabB X.base X.mg c P) (hcode : X.env.code = .ref c) (S : GenSc X.env.scope scope x) (hi : PE X iter te)
    (hN : X.N[i]? = some y) (hk : X.env.scope.names.lookup y = some .cell) (hfr : (y, NameKind.free) ∈ scope.names) (hy : scope.names.lookup y = some .free)
    (hs : ∀ v, genFold iter X.env v = pure v)
    (he : starEach [.GeneratorExp (.Compare (.Name x p1) [.In] [.Name y p2] p3) [⟨.Name x px, iter, [], 0⟩] scope gpos] X.env = (false, eval (.GeneratorExp (.Compare (.Name x p1) [.In] [.Name y p2] p3) [⟨.Name x px, iter, [], 0⟩] scope gpos) X.env) :: starEach [] X.env := by rfl)
    (hd : (x == ("__debug__" : Str)) = false := by decide) (hd2 : (y == ("__debug__" : Str)) = false := by decide) (hcd : (y == ("__classdict__" : Str)) = false := by decide) (hmk : behindInMarks .In (Expr.Name y p2) = false := by with_unfolding_all rfl) :
    PE X (.Call (.Name "all" p) [.GeneratorExp (.Compare (.Name x p1) [.In] [.Name y p2] p3) [⟨.Name x px, iter, [], 0⟩] scope gpos] [] pos) (tAllC P i te) := by
  refine all_go (Wf := fun v H1 σ Q => ∃ a z : Str, v = .str a ∧ σ[i]? = some (some (.str z)) ∧ ∀ H2, Tabbed P H1 H2 → Q (.bl (a.cps.toList.all fun c => decide (c ∈ z.cps.toList))) H2) hr hg hm hb TB hcode S hi hs he fun pins σ v xv H1 s1 Q hT h r1 I1 => ?_
  obtain ⟨a, z, rfl, hv, hQ⟩ := h
  obtain ⟨t, rfl⟩ := _root_.id r1
  obtain ⟨ps, hP, _⟩ := hT
  refine ⟨_, _, _, itOk_str, elt_in I1 ⟨ps, hP⟩ hN hv hk hfr S.loc hy S.kind hd hd2 hcd hmk, fun H2 h2 => ?_⟩
  rw [all_signs]
  exact hQ H2 h2
/-- all(lo <= x <= hi and x != no for x in e), e a list of ints -/
def tAllR (K : PySem.W.Frag) (P : Addr) (l h n : Int) (te : TE) : TE := fun σ H Q => te σ H fun v H1 => TabG H1 P ∧ ∃ (q : Addr) (ns : List Int), v = .ref q ∧ SqL K H1 q (ns.map V.int) ∧ ∀ H2, Tabbed P H1 H2 → Q (.bl (ns.all fun c => decide (l ≤ c ∧ c ≤ h ∧ c ≠ n))) H2
theorem pe_allR {c P : Addr} {iter : Expr} {x lo hi no : Str} {px p pos gpos p1 p2 p3 p4 p5 p6 p7 p8 : Pos} {scope : Scope} {te : TE} {k : Nat} {l h n : Int}
    (hr : Room k X.A) (hg : Gl X "all") (hm : X.mg "all" = none) (hb : bootBuiltins "all" = some (.builtin "all")) (TB : TabB X.base X.mg c P) (hcode : X.env.code = .ref c) (S : GenSc X.env.scope scope x) (hi' : PE X iter te)
    (g1 : ∃ u, X.mg lo = some u ∧ RelV (.int l) u) (g2 : ∃ u, X.mg hi = some u ∧ RelV (.int h) u) (g3 : ∃ u, X.mg no = some u ∧ RelV (.int n) u)
    (k1 : scope.names.lookup lo = some .globalImplicit) (k2 : scope.names.lookup hi = some .globalImplicit) (k3 : scope.names.lookup no = some .globalImplicit)
    (hs : ∀ v, genFold iter X.env v = pure v)
    (he : starEach [.GeneratorExp (.BoolOp .And [.Compare (.Name lo p1) [.LtE, .LtE] [.Name x p2, .Name hi p3] p4, .Compare (.Name x p5) [.NotEq] [.Name no p6] p7] p8) [⟨.Name x px, iter, [], 0⟩] scope gpos] X.env = (false, eval (.GeneratorExp (.BoolOp .And [.Compare (.Name lo p1) [.LtE, .LtE] [.Name x p2, .Name hi p3] p4, .Compare (.Name x p5) [.NotEq] [.Name no p6] p7] p8) [⟨.Name x px, iter, [], 0⟩] scope gpos) X.env) :: starEach [] X.env := by rfl)
    (d0 : (x == ("__debug__" : Str)) = false := by decide) (d1 : (lo == ("__debug__" : Str)) = false := by decide) (d2 : (hi == ("__debug__" : Str)) = false := by decide) (d3 : (no == ("__debug__" : Str)) = false := by decide) :
    PE X (.Call (.Name "all" p) [.GeneratorExp (.BoolOp .And [.Compare (.Name lo p1) [.LtE, .LtE] [.Name x p2, .Name hi p3] p4, .Compare (.Name x p5) [.NotEq] [.Name no p6] p7] p8) [⟨.Name x px, iter, [], 0⟩] scope gpos] [] pos) (tAllR X.K P l h n te) := by
  obtain ⟨u1, g1, t1, rfl⟩ := g1
  obtain ⟨u2, g2, t2, rfl⟩ := g2
  obtain ⟨u3, g3, t3, rfl⟩ := g3
  refine all_go (Wf := fun v H1 σ Q => ∃ (q : Addr) (ns : List Int), v = .ref q ∧ SqL X.K H1 q (ns.map V.int) ∧ ∀ H2, Tabbed P H1 H2 → Q (.bl (ns.all fun c => decide (l ≤ c ∧ c ≤ h ∧ c ≠ n))) H2) hr hg hm hb TB hcode S hi' hs he fun pins σ v xv H1 s1 Q hT hq r1 I1 => ?_
  obtain ⟨q, ns, rfl, hq, hQ⟩ := hq
  obtain rfl : xv = Value.ref q := r1
  obtain ⟨its, rv, pl, hsz⟩ := I1.list hq
  obtain ⟨ps, hP, _⟩ := hT
  have hqP : q ≠ P := fun e => by
    have q' : s1.heap.get? P = some { cls := .none, data := .fields ps } := I1.hok P _ hP
    obtain ⟨o, nn, e1, _, _, e2⟩ := pl
    rw [e, q'] at e1
    cases e1
    cases e2
  refine ⟨_, _, _, itOk_list pl.isList hqP, elt_rng I1 ⟨ps, hP⟩ g1 g2 g3 (by simpa using rv) S.loc k1 k2 k3 S.kind d0 d1 d2 d3, fun H2 h2 => ?_⟩
  have e := rv.length
  rw [List.length_map] at e
  rw [List.size_toArray, ← e, all_trI]
  exact hQ H2 h2
end
end WP

namespace WP
open PySem PySem.Spec PyProof.Rows L2 GxR
/-- all but the tables stay, tables stay tables -/
def NT (u : HO) : Prop := ∀ ps, u ≠ .tbl ps
structure Sm (H H' : Hp) : Prop where
  k : ∀ b u, H b = some u → NT u → H' b = some u
  t : ∀ P, TabG H P → TabG H' P
theorem Sm.refl (H : Hp) : Sm H H := ⟨fun _ _ e _ => e, fun _ h => h⟩
theorem Sm.trans {H H' H2 : Hp} (a : Sm H H') (b : Sm H' H2) : Sm H H2 := ⟨fun x u e n => b.k x u (a.k x u e n) n, fun P h => b.t P (a.t P h)⟩
theorem Sm.of {H H' : Hp} (e : Same H H') : Sm H H' := ⟨fun b u h _ => e b u h, fun P ⟨ps, h, t⟩ => ⟨ps, e P _ h, t⟩⟩
theorem Sm.tab {H H' : Hp} {P : Addr} (g : TabG H P) (h : Tabbed P H H') : Sm H H' := by
  obtain ⟨ps, hP, ht⟩ := g
  refine ⟨fun b u e n => ?_, fun Q hq => ?_⟩
  · by_cases hb : b = P
    · rw [hb, hP] at e; exact absurd (Option.some.inj e).symm (n ps)
    · rw [h.2 b hb]; exact e
  · by_cases hb : Q = P
    · rw [hb]; exact h.1
    · obtain ⟨qs, h1, h2⟩ := hq
      exact ⟨qs, by rw [h.2 Q hb]; exact h1, h2⟩
theorem nt_tup {xs : List V} : NT (.tup xs) := fun _ z => by cases z
theorem nt_lst {xs : List V} : NT (.lst xs) := fun _ z => by cases z
theorem nt_frz {o : Obj} {x : HO} : NT (.frz o x) := fun _ z => by cases z
theorem Sm.tup {K : PySem.W.Frag} {H H' : Hp} {a : Addr} {xs : List V} (e : Sm H H') (h : SqT K H a xs) : SqT K H' a xs := by
  rcases h with (h | ⟨o, h⟩) | h
  · exact .inl (.inl (e.k _ _ h nt_tup))
  · exact .inl (.inr ⟨o, e.k _ _ h nt_frz⟩)
  · exact .inr h
theorem Sm.lst {K : PySem.W.Frag} {H H' : Hp} {a : Addr} {xs : List V} (e : Sm H H') (h : SqL K H a xs) : SqL K H' a xs := by
  rcases h with (h | ⟨o, h⟩) | h
  · exact .inl (.inl (e.k _ _ h nt_lst))
  · exact .inl (.inr ⟨o, e.k _ _ h nt_frz⟩)
  · exact .inr h
/-- what comes back, tables grown -/
def MetV (v : V) (H : Hp) (Q : VK) : Prop := ∀ H', Sm H H' → Q v H'
def MetT (xs : List V) (H : Hp) (Q : VK) : Prop := ∀ p H', Sm H H' → H' p = some (.tup xs) → Q (.ref p) H'
theorem MetT.new {xs : List V} {H H' : Hp} {Q : VK} (k : MetT xs H Q) (e : Sm H H') : ∀ p, H' p = none → Q (.ref p) (upd H' p (.tup xs)) := fun p hp =>
  k p _ (e.trans (.of (same_new hp))) upd_same
/-- the def x's code object and its table -/
def cod (K : PySem.W.Frag) (x : Str) : Addr := match PySem.W.tabIn K x with
  | some (c, _) => c
  | none => 0
def tbl (K : PySem.W.Frag) (x : Str) : Addr := match PySem.W.tabIn K x with
  | some (_, P) => P
  | none => 0
theorem cod_of {K : PySem.W.Frag} {x : Str} {c P : Addr} (h : PySem.W.tabIn K x = some (c, P)) : cod K x = c := by unfold cod; rw [h]
theorem tbl_of {K : PySem.W.Frag} {x : Str} {c P : Addr} (h : PySem.W.tabIn K x = some (c, P)) : tbl K x = P := by unfold tbl; rw [h]
/-- a def whose code object is c -/
structure FunC (K : PySem.W.Frag) (x qual : Str) (st : Stmt) (f : Addr) (fd : FuncData) (c : Addr) : Prop where
  ex : ∃ (oc : Value) (od : Option Addr) (kV doc pm : Value) (an : Option Addr) (ct : Value) (osl : Array (Option Value)),
    fd = PySem.W.fnOf x qual (defArgs st) (defBody st) (defScope st) .none kV doc pm an (.ref c) ct ∧ K.lookup f = some ⟨oc, od, .func fd, osl⟩ ∧ PySem.W.codeIn K (.ref c) qual = true
section
variable {P : Program} {w : World} {K : PySem.W.Frag} {mg : Str → Option Value} {base : Heap}
theorem FunC.ok {x qual : Str} {st : Stmt} {f : Addr} {fd : FuncData} {c : Addr} {N ps : List Str} {k : Nat} {sp : Sp} (F : FunC K x qual st f fd c) (S : FnScope N ps (defScope st)) (len : ∀ vs H Q E, sp vs H Q E → vs.length = ps.length)
    (hbody : ∀ (A : Around) (outer : List Env) (s : Shared) (H : Hp) (vs : List V) (Q : VK) (E : XK), Room k (A.deeper (envOfC qual (defScope st) s.heap.objs.size f (.ref c))) → sp vs H Q E →
      ∃ t, PSs (cxOf CX0 P w K mg base N qual (defScope st) f (.ref c) A outer s H E).nox (defBody st) t ∧ t { nx := fun _ H' => Q .non H', rt := Q } (start N vs) H) : FnOk P w K mg base CX0 (k + 1) f fd ps sp := by
  obtain ⟨oc, od, kV, doc, pm, an, ct, osl, rfl, lk, hcd⟩ := F.ex
  refine fn_of lk hcd S len fun A outer s H vs Q E hr hsp => ?_
  obtain ⟨t, h, q⟩ := hbody A outer s H vs Q E hr hsp
  exact ⟨t, h.nox, q⟩
theorem funC_mk {x qual : Str} {st : Stmt} {f : Addr} {c P' : Addr} {y : Str} {oc : Value} {od an : Option Addr} {osl : Array (Option Value)} {kV doc pm ct : Value} (l : K.lookup f = some ⟨oc, od, .func (PySem.W.fnOf x qual (defArgs st) (defBody st) (defScope st) .none kV doc pm an (.ref c) ct), osl⟩)
    (hc : PySem.W.codeIn K (.ref c) qual = true) (ht : PySem.W.tabIn K y = some (c, P')) : FunC K x qual st f (PySem.W.fnOf x qual (defArgs st) (defBody st) (defScope st) .none kV doc pm an (.ref c) ct) (cod K y) := by
  rw [cod_of ht]
  exact ⟨oc, od, kV, doc, pm, an, ct, osl, rfl, l, hc⟩
end
theorem FunC.toF {K : PySem.W.Frag} {x qual : Str} {st : Stmt} {f : Addr} {fd : FuncData} {c : Addr} (F : FunC K x qual st f fd c) (k : PySem.W.keepIn K (.ref f) = true) : Fun K x qual st f fd := by
  obtain ⟨oc, od, kV, doc, pm, an, ct, osl, e, lk, hcd⟩ := F.ex
  exact ⟨⟨oc, od, kV, doc, pm, an, _, ct, osl, e, lk, hcd⟩, k⟩
theorem tabB_of {base : Heap} {mg : Str → Option Value} {K : PySem.W.Frag} {x : Str} {c P : Addr} (h : LamX.TabB base mg c P) (ht : PySem.W.tabIn K x = some (c, P)) : GxR.TabB base mg (cod K x) (tbl K x) := by
  rw [cod_of ht, tbl_of ht]
  exact ⟨h.code, h.bm, h.gP⟩
/-- the end of a row whose defs hold generator expressions -/
theorem walk_ofG {l : PySem.W.OpenLaw} {n k : Nat} {q : Program} {loose : List Str} {XP : (Str → Option Value) → Heap → Prop} {YP : World → Heap → Prop} {d : DefRec} {K : Params → PySem.W.Frag} {CX : World → CXT} {x : Str}
    (hn : l.most = some n) (hn2 : n ≤ sizeLine) (hdf : d.params.defaults = []) (hr : Room k callerA) (hY : ∀ (w : World) (h : Heap), YP w h → (K w.params).In h)
    (F : ∀ (w : World) (mg : Str → Option Value) (fa : Addr) (h : Heap), YP w h → (K w.params).In h → h.Ns mainGlobals mg → mg d.name = some (.ref fa) →
      (∀ (x : Str) (c P : Addr), ((recsOf q).any fun e => e.name == x) = true → PySem.W.tabIn (K w.params) x = some (c, P) → PySem.W.CodeHd h c P ∧ h.get? P = some { cls := .none, data := .fields #[] }) → LamX.LawAtS l w (K w.params) (CX w) k n x mg fa h)
    (hCX : ∀ (w : World) (H : Hp) (s : Shared) (e : Value) (s' : Shared), CX w [] H s (fun _ _ _ => False) e s' → False) :
    PySem.W.WalkO q loose XP YP l.row.toRowW d [] (fun f vs => PySem.call f vs) := by
  refine Att.attach_callB hn hdf fun w s₀ s₁ mg mb fa o pm cd doc a vs ns G Y ho hd hcd hmg hobj hints hlen hbits hg => ?_
  have KX := hY w _ Y
  obtain ⟨fd, cs, sp, hT, nT, C, hb, hsp, hF⟩ := F w mg fa _ Y KX G.T.g hmg fun x c P hrec ht => by
    obtain ⟨dL, hf⟩ : ∃ dL, (recsOf q).find? (fun e => e.name == x) = some dL := by
      cases e : (recsOf q).find? (fun e => e.name == x) with
      | some dL => exact ⟨dL, rfl⟩
      | none =>
        rw [List.find?_eq_none] at e
        obtain ⟨z, hz, h2⟩ := List.any_eq_true.mp hrec
        exact absurd h2 (e z hz)
    exact PySem.W.tab_of G.T KX hf ht
  exact LamX.law_callTs KX G.T.g G.T.b G.T.builtins G.T.nolimit hg hT nT C G.T.bmain hobj hints (Nat.le_trans hlen hn2) hr hF hb (fun H hH hS => hsp H a ns hlen hbits hH hS) fun H e s' => hCX w H s₁ e s'
end WP

namespace WT
open PySem PySem.Spec PyProof.Rows L2 CwR
/-! ### with a token out: tests, ifs, loops, defs -/
def PTT (X : Cx) (e : Expr) (t : TT) : Prop :=
  ∀ (pins : List (Addr × Obj)) (s : Shared) (σ : L2.St) (H : Hp) (Q : Bool → Hp → Prop), 1 ≤ s.toks → Inv X pins σ H s → t σ H Q → wpAny (model X.prog X.w) X.A (isTrue e X.env (eval e X.env)) (TP X pins σ Q) X.xe s
def PWT (X : Cx) (e : Expr) (t : TT) : Prop :=
  ∀ (whole : Sem Value) (pins : List (Addr × Obj)) (s : Shared) (σ : L2.St) (H : Hp) (Q : Bool → Hp → Prop), 1 ≤ s.toks → Inv X pins σ H s → t σ H Q → wpAny (model X.prog X.w) X.A (isTrue e X.env whole) (TP X pins σ Q) X.xe s
section
variable {X : Cx} {st : Stmt} {rest : List Stmt} {t u : TS} {a b c e f : Expr} {te tf ta tb : TE} {tA tB tc : TT} {pos p : Pos}
theorem PTT.of (h : PT X e tA) : PTT X e tA := fun pins s σ H Q _ I q => h.run pins s σ H Q I q
theorem PWT.of (h : PW X e tA) : PWT X e tA := fun wh pins s σ H Q _ I q => h.run wh pins s σ H Q I q
theorem PWT.pt (h : PWT X e tA) : PTT X e tA := h _
theorem ptt_cmp {op : CmpOp} {r : R2} (ho : OpR X (compareOp op) r) (ha : PET X a ta) (hb : PET X b tb) (hm : behindInMarks op b = false) : PTT X (.Compare a [op] [b] pos) (tTest (tOp r ta tb)) := by
  intro pins s σ H Q h0 I h
  refine wpAny_isTrue_Compare1 (wpAny_mono (PySem.wpAny_toks (ha pins s σ H _ h0 I h)) (fun v s1 q => ?_) fun _ _ z => z.2) hm
  obtain ⟨hk, x, H1, I1, r1, q1⟩ := q
  refine thn (hb pins s1 σ H1 _ (Nat.le_trans h0 hk) I1 q1) fun u s2 ⟨y, H2, I2, r2, q2⟩ => thn (ho pins s2 σ H2 x y v u _ I2 r1 r2 q2) fun c s3 ⟨z, H3, I3, r3, k, e, q3⟩ => ?_
  subst e
  cases r3
  exact wpAny_truthy_bool ⟨H3, I3, q3⟩
theorem pwt_and {rest : List Expr} {tB' : TT} (ha : PTT X a tA) (hb : PWT X (.BoolOp .And (b :: rest) pos) tB') : PWT X (.BoolOp .And (a :: b :: rest) pos) (tAnd tA tB') := by
  intro wh pins s σ H Q h0 I h
  refine isTrue_and (wpAny_mono (PySem.wpAny_toks (ha pins s σ H _ h0 I h)) (fun c s1 q => ?_) fun _ _ z => z.2)
  obtain ⟨hk, H1, I1, q1⟩ := q
  cases c with
  | true => exact hb wh pins s1 σ H1 Q (Nat.le_trans h0 hk) I1 q1
  | false => exact ⟨H1, I1, q1⟩
theorem pat_one (ha : PET X e te) (hs : starEach [e] X.env = (false, eval e X.env) :: starEach [] X.env := by rfl) : PAT X [e] (tCons te tNil) := pat_cons ha pat_nil hs
theorem pet_callB {x : Str} {id : String} {r : List V → Hp → VK → Prop} {es : List Expr} {t : TA} (hc : CallR X (.builtin id) r) (hg : Gl X x) (hm : X.mg x = none) (hv : bootBuiltins x = some (.builtin id)) (ha : PAT X (e :: es) t) (hn : x ≠ "__name__" := by decide) (hdb : (x == ("__debug__" : Str)) = false := by decide)
    (he : starEach (e :: es) X.env = (false, eval e X.env) :: starEach es X.env := by rfl) (hpl : (backTo pos (starEach es X.env)).any (·.1) = false := by rfl) : PET X (.Call (.Name x p) (e :: es) [] pos) (tCB r t) := by
  intro pins s σ H Q h0 I h
  refine wpAny_Call_Name_kw (ld_blt I hg hm hv ?_ hn hdb)
  exact PyProof.Rows.callWith_builtin1 (thn (ha pos pins s σ H _ h0 I h) fun us s1 ⟨vs, H1, I1, r1, q1⟩ => hc pins s1 σ H1 vs us Q I1 r1 q1) he hpl
theorem pst_ifT {a b : List Stmt} (hc : PTT X c tc) (ha : PSsT X a t) (hb : PSsT X b u) : PST X (.If c a b pos) (tIfS tc t u) := by
  intro pins s σ H D h0 I h
  refine wpAny_If (wpAny_mono (PySem.wpAny_toks (hc pins s σ H _ h0 I h)) (fun d s1 q => ?_) fun _ _ z => z.2)
  obtain ⟨hk, H1, I1, q1⟩ := q
  cases d with
  | true => exact ha pins s1 σ H1 D (Nat.le_trans h0 hk) I1 q1
  | false => exact hb pins s1 σ H1 D (Nat.le_trans h0 hk) I1 q1
theorem psst_cut (h1 : PST X st t) (h2 : PSsT X rest u) : PSsT X (st :: rest) (Evl.tCut t u) := by
  intro pins s σ H D h0 I h
  obtain ⟨Mid, hm, hu⟩ := h
  refine wpAny_execs_cons (wpAny_mono (PySem.wpAny_toks (h1 pins s σ H { D with nx := Mid } h0 I hm)) (fun f s1 q => ?_) fun _ _ x => x.2)
  obtain ⟨hk, q⟩ := q
  cases f with
  | next =>
    obtain ⟨σ', H', I', q⟩ := q
    exact h2 pins s1 σ' H' D (Nat.le_trans h0 hk) I' (hu σ' H' q)
  | ret v => exact q
  | brk => exact q
  | cont => exact q
/-- for, its body with a token out -/
theorem pst_forT {tg iter : Expr} {body : List Stmt} {wi : TI} {g : TG} {tb : TS} (hp : PassesOwn (model X.prog X.w) X.A X.env X.xe) (hc : X.calm = true) (hi : PI X tg iter wi) (hg : PG X tg g) (hb : PSsT X body tb)
    (hs : ∀ x, foldedSetIterable iter X.env x = pure x := by intro _; rfl) : PST X (.For tg iter body [] pos) (tFor wi g tb) := by
  intro pins s σ H D h0 I h
  refine wpAny_For (wpAny_mono (PySem.wpAny_toks (hi.run pins s σ H _ I h)) (fun v s1 h1 => ?_) fun _ _ z => z.2) hs
  obtain ⟨hk1, h1⟩ := h1
  refine wpAny_mono (PySem.wpAny_toks h1) (fun itv s2 h2 => ?_) fun _ _ z => z.2
  obtain ⟨hk2, h2⟩ := h2
  obtain ⟨it, fp, tn, J, H2, e, I2, T, st2, f2, W, ⟨m0, w0⟩, turn⟩ := h2
  subst e
  have stat : ∀ {H' : Hp}, (∀ b ∈ fp, H' b = none) → ∀ b ∈ fp, FpOk X pins H' b := fun hn b hb => ⟨hn b hb, (f2 b hb).2⟩
  refine codeAny_forLoop_any (fun n s' => ∃ i σ' H', 1 ≤ s'.toks ∧ Inv X pins σ' H' s' ∧ tn i s'.heap ∧ (∀ b ∈ fp, H' b = none) ∧ W i n σ' H') ?_ m0 ⟨0, σ, H2, Nat.le_trans h0 (Nat.le_trans hk1 hk2), I2, st2, fun b hb => (f2 b hb).1, w0⟩
  rintro n s3 ⟨i, σ3, H3, k3, I3, st3, fr3, w3⟩
  rcases turn i n σ3 H3 w3 with ⟨stop, qn⟩ | ⟨go, N, hN, step⟩
  · refine wpAny_passesOwn hp (thn (T.done X rfl rfl rfl hc i pins s3 σ3 H3 X.xe I3 (stat fr3) st3 stop) fun r s4 ⟨hr, I4⟩ => ?_)
    subst hr
    exact wpAny_execs_nil ⟨σ3, H3, I4, qn⟩
  · refine wpAny_passesOwn hp (wpAny_mono (PySem.wpAny_toks (T.item X rfl rfl rfl hc i pins s3 σ3 H3 X.xe I3 (stat fr3) st3 go)) (fun r s4 q4 => ?_) fun _ _ z => z.2)
    obtain ⟨k4, u, hr, h4⟩ := q4
    subst hr
    refine wpAny_passesOwn hp (wpAny_mono (PySem.wpAny_toks h4) (fun _ s5 q5 => ?_) fun _ _ z => z.2)
    obtain ⟨k5, x, H5, I5, r5, y5, st5, fr5⟩ := q5
    have I5' := I5.pinned (stat fr5) (T.obj _ _ st5)
    refine wpAny_passesOwn hp (wpAny_mono (PySem.wpAny_toks (hg.run _ s5 σ3 H5 x u _ I5' r5 (step x H5 y5))) (fun _ s6 q6 => ?_) fun _ _ z => z.2)
    obtain ⟨k6, σ6, H6, I6, q6⟩ := q6
    have k06 := Nat.le_trans k3 (Nat.le_trans k4 (Nat.le_trans k5 k6))
    refine wpAny_passesOwn hp (wpAny_mono (PySem.wpAny_toks (hb _ s6 σ6 H6 _ k06 I6 q6)) (fun f s7 q7 => ?_) fun _ _ z => z.2)
    obtain ⟨k7, q7⟩ := q7
    have again : ∀ {σ7 : L2.St} {H7 : Hp}, Inv X (pins ++ pinsAt fp s5.heap) σ7 H7 s7 → N σ7 H7 → ∃ m, m < n ∧ ∃ i σ' H', 1 ≤ s7.toks ∧ Inv X pins σ' H' s7 ∧ tn i s7.heap ∧ (∀ b ∈ fp, H' b = none) ∧ W i m σ' H' := fun {σ7 H7} I7 n7 => by
      obtain ⟨m', hm, w7⟩ := hN σ7 H7 n7
      refine ⟨m', hm, i + 1, σ7, H7, Nat.le_trans k06 k7, I7.unpinned, T.keep _ _ _ st5 fun b hb o e => (I7.pin (b, o) (List.mem_append_right _ (List.mem_append_right _ (mem_pinsAt hb e)))).1, fun b hb => ?_, w7⟩
      obtain ⟨o, e, d⟩ := T.obj _ _ st5 b hb
      exact (I7.pin (b, o) (List.mem_append_right _ (List.mem_append_right _ (mem_pinsAt hb e)))).2.1
    cases f with
    | next => obtain ⟨σ7, H7, I7, n7⟩ := q7; exact again I7 n7
    | cont => obtain ⟨σ7, H7, I7, n7⟩ := q7; exact again I7 n7
    | brk => obtain ⟨σ7, H7, I7, q7⟩ := q7; exact ⟨σ7, H7, I7.unpinned, q7⟩
    | ret v => obtain ⟨x7, σ7, H7, I7, r7, q7⟩ := q7; exact ⟨x7, σ7, H7, I7.unpinned, r7, q7⟩
end
section
variable {P : Program} {w : World} {K : PySem.W.Frag} {mg : Str → Option Value} {base : Heap}
/-- a def with a parameter: at its entry a token is out -/
theorem okT {x qual : Str} {st : Stmt} {f : Addr} {fd : FuncData} {N ps : List Str} {k : Nat} {sp : Sp} (F : Fun K x qual st f fd) (S : FnScope N ps (defScope st)) (hnc : ∀ y ∈ (defScope st).names, y.2 ≠ .cell) (hps : 1 ≤ ps.length) (len : ∀ vs H Q E, sp vs H Q E → vs.length = ps.length)
    (hbody : ∀ (cdv : Value) (A : Around) (outer : List Env) (s : Shared) (H : Hp) (vs : List V) (Q : VK) (E : XK), Room k (A.deeper (envOfC qual (defScope st) s.heap.objs.size f cdv)) → sp vs H Q E →
      ∃ t, PSsT (cxOf CX0 P w K mg base N qual (defScope st) f cdv A outer s H E).nox (defBody st) t ∧ t { nx := fun _ H' => Q .non H', rt := Q } (start N vs) H) : FnOk P w K mg base CX0 (k + 1) f fd ps sp := by
  obtain ⟨oc, od, kV, doc, pm, an, cdv, ct, osl, rfl, lk, hcd⟩ := F.ex
  refine fn_ofT lk hcd S hnc hps len fun A outer s H vs Q E hr hsp => ?_
  obtain ⟨t, h, q⟩ := hbody cdv A outer s H vs Q E hr hsp
  exact ⟨t, fun pins s σ H D h0 I hw => wpAny_mono (h pins s σ H D h0 (I.wish _) hw) (fun _ _ q => q.unwish) fun _ _ z => False.elim z, q⟩
end
/-! ### the same as structures (so that they are not unfolded) -/
structure ET (X : Cx) (e : Expr) (t : TE) : Prop where
  run : PET X e t
structure TT1 (X : Cx) (e : Expr) (t : TT) : Prop where
  run : PTT X e t
structure TW (X : Cx) (e : Expr) (t : TT) : Prop where
  run : PWT X e t
structure ST (X : Cx) (st : Stmt) (t : TS) : Prop where
  run : PST X st t
structure SsT (X : Cx) (st : List Stmt) (t : TS) : Prop where
  run : PSsT X st t
section
variable {X : Cx} {st : Stmt} {rest : List Stmt} {t u : TS} {a b c e f : Expr} {te tf ta tb : TE} {tA tB tc : TT} {pos p apos c0 c1 : Pos} {y z : Str} {j k : Nat} {o : Expr} {to : TE}
theorem ET.of (h : PE X e te) : ET X e te := ⟨PET.of h⟩
theorem TT1.of (h : PT X e tA) : TT1 X e tA := ⟨PTT.of h⟩
theorem TW.of (h : PW X e tA) : TW X e tA := ⟨PWT.of h⟩
theorem TW.pt (h : TW X e tA) : TT1 X e tA := ⟨h.run.pt⟩
theorem ST.of (h : PS X st t) : ST X st t := ⟨PST.of h⟩
theorem SsT.of (h : PSs X rest t) : SsT X rest t := ⟨PSsT.of h⟩
theorem ss_cons (h1 : ST X st t) (h2 : SsT X rest u) : SsT X (st :: rest) (tSeq t u) := ⟨psst_cons h1.run h2.run⟩
theorem ss_cut (h1 : ST X st t) (h2 : SsT X rest u) : SsT X (st :: rest) (Evl.tCut t u) := ⟨psst_cut h1.run h2.run⟩
theorem ss_one (h : ST X st t) : SsT X [st] t := ⟨psst_one h.run⟩
theorem s_if {a b : List Stmt} (hc : TT1 X c tc) (ha : SsT X a t) (hb : SsT X b u) : ST X (.If c a b pos) (tIfS tc t u) := ⟨pst_ifT hc.run ha.run hb.run⟩
theorem s_for {tg iter : Expr} {body : List Stmt} {wi : TI} {g : TG} {tb : TS} (hp : PassesOwn (model X.prog X.w) X.A X.env X.xe) (hc : X.calm = true) (hi : PI X tg iter wi) (hg : PG X tg g) (hb : SsT X body tb)
    (hs : ∀ x, foldedSetIterable iter X.env x = pure x := by intro _; rfl) : ST X (.For tg iter body [] pos) (tFor wi g tb) := ⟨pst_forT hp hc hi hg hb.run hs⟩
theorem s_ret (he : ET X e te) : ST X (.Return (some e) pos) (tRet te) := ⟨pst_ret he.run⟩
theorem t_cmp {op : CmpOp} {r : R2} (ho : OpR X (compareOp op) r) (ha : ET X a ta) (hb : ET X b tb) (hm : behindInMarks op b = false) : TT1 X (.Compare a [op] [b] pos) (tTest (tOp r ta tb)) := ⟨ptt_cmp ho ha.run hb.run hm⟩
theorem w_and {rest : List Expr} {tB' : TT} (ha : TT1 X a tA) (hb : TW X (.BoolOp .And (b :: rest) pos) tB') : TW X (.BoolOp .And (a :: b :: rest) pos) (tAnd tA tB') := ⟨pwt_and ha.run hb.run⟩
theorem e_len {x : Str} {id : String} {r : List V → Hp → VK → Prop} (hc : CallR X (.builtin id) r) (hg : Gl X x) (hm : X.mg x = none) (hv : bootBuiltins x = some (.builtin id)) (ha : ET X e te) (hns : WP.noStar e = true := by rfl) (hn : x ≠ "__name__" := by decide) (hdb : (x == ("__debug__" : Str)) = false := by decide)
    (hpl : (backTo pos (starEach ([] : List Expr) X.env)).any (·.1) = false := by rfl) : ET X (.Call (.Name x p) [e] [] pos) (tCB r (tCons te tNil)) := ⟨pet_callB hc hg hm hv (pat_one ha.run (WP.starEach_no hns)) hn hdb (WP.starEach_no hns) hpl⟩
theorem e_op {op : Operator} {r : R2} (ho : OpR X (binaryOp op) r) (ha : ET X e te) (hb : ET X f tf) : ET X (.BinOp e op f pos) (tOp r te tf) := ⟨pet_op ho ha.run hb.run⟩
theorem e_replC (ho : PE X o to) (hyz : (y == z) = false := by decide)
    (hst : starEach [.Constant (.str y) j c0, .Constant (.str z) k c1] X.env = [(false, eval (.Constant (.str y) j c0) X.env), (false, eval (.Constant (.str z) k c1) X.env)] := by rfl)
    (hbase : attributeBase o "replace" X.env (eval o X.env) = eval o X.env := by rfl) (hline : (apos.endLine == pos.line) = true := by rfl) :
    ET X (.Call (.Attribute o "replace" apos) [.Constant (.str y) j c0, .Constant (.str z) k c1] [] pos) (tReplC to y z) := ⟨pet_replC ho hyz hst hbase hline⟩
theorem e_replT (ho : ET X o to) (hyz : (y == z) = false := by decide)
    (hst : starEach [.Constant (.str y) j c0, .Constant (.str z) k c1] X.env = [(false, eval (.Constant (.str y) j c0) X.env), (false, eval (.Constant (.str z) k c1) X.env)] := by rfl)
    (hbase : attributeBase o "replace" X.env (eval o X.env) = eval o X.env := by rfl) (hline : (apos.endLine == pos.line) = true := by rfl) :
    ET X (.Call (.Attribute o "replace" apos) [.Constant (.str y) j c0, .Constant (.str z) k c1] [] pos) (tReplC to y z) := ⟨pet_replT ho.run hyz hst hbase hline⟩
end
section
variable {P : Program} {w : World} {K : PySem.W.Frag} {mg : Str → Option Value} {base : Heap}
theorem okS {x qual : Str} {st : Stmt} {f : Addr} {fd : FuncData} {N ps : List Str} {k : Nat} {sp : Sp} (F : Fun K x qual st f fd) (S : FnScope N ps (defScope st)) (hnc : ∀ y ∈ (defScope st).names, y.2 ≠ .cell) (hps : 1 ≤ ps.length) (len : ∀ vs H Q E, sp vs H Q E → vs.length = ps.length)
    (hbody : ∀ (cdv : Value) (A : Around) (outer : List Env) (s : Shared) (H : Hp) (vs : List V) (Q : VK) (E : XK), Room k (A.deeper (envOfC qual (defScope st) s.heap.objs.size f cdv)) → sp vs H Q E →
      ∃ t, SsT (cxOf CX0 P w K mg base N qual (defScope st) f cdv A outer s H E).nox (defBody st) t ∧ t { nx := fun _ H' => Q .non H', rt := Q } (start N vs) H) : FnOk P w K mg base CX0 (k + 1) f fd ps sp :=
  okT F S hnc hps len fun cdv A outer s H vs Q E hr hsp => by
    obtain ⟨t, h, q⟩ := hbody cdv A outer s H vs Q E hr hsp
    exact ⟨t, h.run, q⟩
end
end WT
namespace WT
open PySem PySem.Spec PyProof.Rows L2 CwR
theorem repl {to : TE} {y z : Str} {σ : L2.St} {H : Hp} {Q : VK} (h : to σ H fun v H1 => ∃ x, v = .str x ∧ x.length + (x.length + 1) * z.length ≤ 16777216 ∧ Q (.str (Txt.replace x y z)) H1) : tReplC to y z σ H Q := h
end WT

namespace WZ
open PySem PySem.Spec PyProof.Rows L2
/-! ### zip of two texts -/
structure Ap (o ti to p q : Addr) : Prop where
  a1 : ti ≠ o
  a2 : to ≠ o
  a3 : p ≠ o
  a4 : q ≠ o
  b1 : ti ≠ to
  b2 : ti ≠ p
  b3 : ti ≠ q
  b4 : to ≠ p
  b5 : to ≠ q
  c1 : p ≠ q
theorem ap_new (n : Nat) : Ap (n + 4) (n + 2) (n + 3) n (n + 1) := by
  constructor <;> exact (show (_ : Nat) ≠ _ by omega)
abbrev Dr (P : Program) (w : World) (it : Addr) (x : Str) (St : Nat → Heap → Prop) : Prop :=
  ∀ A : Around, A.handled = none → Draws P w A it [it] x.cps.size (SignAt x) St
section
variable {P : Program} {w : World} {A : Around} {E : Value → Shared → Prop} {s : Shared}
theorem stE {St : Nat → Heap → Prop} {it : Addr} {x : Str} {i : Nat} {h h' : Heap} {c : Addr} (D : Dr P w it x St) (hA : A.handled = none) (st : St i h) (e : Heap.ExtBut c h h') (n : it ≠ c) : St i h' :=
  (D A hA).frame i h h' st fun b hb o ho => e b o (by rw [List.mem_singleton.mp hb]; exact n) ho
theorem live_lt {St : Nat → Heap → Prop} {it : Addr} {x : Str} {i : Nat} {h : Heap} (D : Dr P w it x St) (hA : A.handled = none) (st : St i h) : it < h.objs.size := by
  obtain ⟨o, ho⟩ := (D A hA).live i h st
  exact Heap.lt_size ho
/-- the next pair -/
theorem next_item {o ti to p q : Addr} {i j : Nat} {x y : Str} {S T : Nat → Heap → Prop} {a b : Value} {Q : Value → Shared → Prop} (hA : A.handled = none) (ap : Ap o ti to p q) (D1 : Dr P w p x S) (D2 : Dr P w q y T)
    (zo : IsZip s.heap o ti to .none) (pI : IsPair s.heap ti (.ref p) (.ref q)) (pO : IsPair s.heap to a b) (k1 : S i s.heap) (k2 : T j s.heap) (l1 : i < x.cps.size) (l2 : j < y.cps.size)
    (fin : ∀ u v h' tk, SignAt x i u → SignAt y j v → IsZip h' o ti to (rawInt s.heap.objs.size) → IsPair h' to u v → S (i + 1) h' → T (j + 1) h' → IsPair h' s.heap.objs.size u v → h'.objs.size = s.heap.objs.size + 1 →
      (∀ c ob, c ≠ o → c ≠ to → c ≠ p → c ≠ q → s.heap.get? c = some ob → h'.get? c = some ob) → Q (.ref s.heap.objs.size) { s with heap := h', toks := tk }) :
    wpAny (model P w) A (Builtin.«zip.__next__» ⟨[.ref o], []⟩) (fun f s' => ∃ v, f = .done (.ret v) ∧ Q v s') E s := by
  obtain ⟨hp, g, dn, t0, os⟩ := s
  show wpAny _ _ (field (.ref o) 2 >>= _) _ _ _
  refine wpAny_bind (wpAny_field zo rfl (x := .bool false) rfl ?_)
  show wpAny _ _ (field (.ref o) 3 >>= _) _ _ _
  refine wpAny_bind (wpAny_field zo rfl (x := .ref ti) rfl ?_)
  refine wpAny_bind (wpAny_seqItems pI rfl ?_)
  show wpAny _ _ (Builtin.SmallTypes.ownedTupleIsFree (.ref o) >>= _) _ _ _
  refine wpAny_bind (m := Builtin.SmallTypes.ownedTupleIsFree (.ref o)) ?_
  unfold Builtin.SmallTypes.ownedTupleIsFree
  refine wpAny_bind (wpAny_field zo rfl (x := .none) rfl (wpAny_pure ?_))
  simp only [if_true]
  refine wpAny_bind (wpAny_rule (wpAny_bind (wpAny_field zo rfl (x := .ref to) rfl (wpAny_bind (wpAny_setField_rec zo (by simp) fun h₁ z₁ e₁ => ?_)))))
  replace z₁ : IsZip h₁ o ti to .ellipsis := z₁
  replace e₁ : Heap.SameBut o hp h₁ := e₁
  refine wpAny_bind (m := forIn _ _ _) ?_
  simp only [List.zipIdx_cons, List.zipIdx_nil, List.forIn_cons, List.forIn_nil]
  refine wpAny_bind (wpAny_bind (wpAny_onRaise ?_))
  show wpAny _ _ (Builtin.SmallTypes.nextOf (.ref p) >>= _) _ _ ⟨h₁, g, dn, t0, os⟩
  refine wpAny_bind ((D1 _ hA).item i _ _ _ l1 (stE D1 hA k1 e₁.extBut ap.a3) fun u h₂ t1 hu s₂ e₂ => wpAny_pure ?_)
  replace e₂ : Heap.SameBut p h₁ h₂ := e₂
  have o₂ : IsPair h₂ to a b := e₂.extBut _ _ ap.b4 (e₁.extBut _ _ ap.a2 pO)
  refine wpAny_bind (wpAny_seqItems (s := ⟨h₂, g, dn, t1, os⟩) o₂ rfl ?_)
  refine wpAny_bind (wpAny_updateSeq_pair (s := ⟨h₂, g, dn, t1, os⟩) o₂ fun h₃ o₃ e₃ => ?_)
  replace o₃ : IsPair h₃ to u b := o₃
  replace e₃ : Heap.SameBut to h₂ h₃ := e₃
  refine wpAny_bind (wpAny_letGo (wpAny_pure ?_))
  refine wpAny_bind (wpAny_bind (wpAny_onRaise ?_))
  show wpAny _ _ (Builtin.SmallTypes.nextOf (.ref q) >>= _) _ _ ⟨h₃, g, dn, t1, os⟩
  have st2 : T j h₃ := stE D2 hA (stE D2 hA (stE D2 hA k2 e₁.extBut ap.a4) e₂.extBut ap.c1.symm) e₃.extBut ap.b5.symm
  refine wpAny_bind ((D2 _ hA).item j ⟨h₃, g, dn, t1, os⟩ _ _ l2 st2 fun v h₄ t2 hv s₄ e₄ => wpAny_pure ?_)
  replace e₄ : Heap.SameBut q h₃ h₄ := e₄
  have o₄ : IsPair h₄ to u b := e₄.extBut _ _ ap.b5 o₃
  refine wpAny_bind (wpAny_seqItems (s := ⟨h₄, g, dn, t2, os⟩) o₄ rfl ?_)
  refine wpAny_bind (wpAny_updateSeq_pair (s := ⟨h₄, g, dn, t2, os⟩) o₄ fun h₅ o₅ e₅ => ?_)
  replace o₅ : IsPair h₅ to u v := o₅
  replace e₅ : Heap.SameBut to h₄ h₅ := e₅
  refine wpAny_bind (wpAny_letGo (wpAny_pure (wpAny_pure ?_)))
  refine wpAny_bind (wpAny_seqItems (s := ⟨h₅, g, dn, t2, os⟩) o₅ rfl (wpAny_bind (wpAny_newTuple ?_)))
  have sz : h₅.objs.size = hp.objs.size := by rw [e₅.1, e₄.1, e₃.1, e₂.1, e₁.1]
  have z₅ : IsZip h₅ o ti to .ellipsis := e₅.extBut _ _ ap.a2.symm (e₄.extBut _ _ ap.a4.symm (e₃.extBut _ _ ap.a2.symm (e₂.extBut _ _ ap.a3.symm z₁)))
  have up5 : ∀ c ob, c ≠ o → c ≠ to → c ≠ p → c ≠ q → hp.get? c = some ob → h₅.get? c = some ob := fun c ob n1 n2 n3 n4 h =>
    e₅.extBut _ _ n2 (e₄.extBut _ _ n4 (e₃.extBut _ _ n2 (e₂.extBut _ _ n3 (e₁.extBut _ _ n1 h))))
  have s1₅ : S (i + 1) h₅ := stE D1 hA (stE D1 hA (stE D1 hA s₂ e₃.extBut ap.b4.symm) e₄.extBut ap.c1) e₅.extBut ap.b4.symm
  have s2₅ : T (j + 1) h₅ := stE D2 hA s₄ e₅.extBut ap.b5.symm
  have lo : o < h₅.objs.size := Heap.lt_size z₅
  have lt : to < h₅.objs.size := Heap.lt_size o₅
  have lp := live_lt D1 hA s1₅
  have lq := live_lt D2 hA s2₅
  show wpAny _ _ (Builtin.SmallTypes.ownedTupleHandOut (.ref o) (.ref h₅.objs.size) >>= _) _ _ _
  refine wpAny_bind (m := Builtin.SmallTypes.ownedTupleHandOut (.ref o) (.ref h₅.objs.size)) ?_
  unfold Builtin.SmallTypes.ownedTupleHandOut
  have z₆ : IsZip (h₅.push { cls := .type "tuple", data := .seq #[u, v] }) o ti to .ellipsis := Heap.get?_push_of_some _ z₅
  refine wpAny_bind (wpAny_setField_rec (s := ⟨h₅.push { cls := .type "tuple", data := .seq #[u, v] }, g, dn, t2, os⟩) z₆ (by simp) fun h₇ z₇ e₇ => ?_)
  replace z₇ : IsZip h₇ o ti to (rawInt h₅.objs.size) := z₇
  replace e₇ : Heap.SameBut o (h₅.push { cls := .type "tuple", data := .seq #[u, v] }) h₇ := e₇
  refine wpAny_setField_rec (s := ⟨h₇, g, dn, t2, os⟩) z₇ (by simp) fun h₈ z₈ e₈ => ?_
  replace z₈ : IsZip h₈ o ti to (rawInt h₅.objs.size) := z₈
  replace e₈ : Heap.SameBut o h₇ h₈ := e₈
  have up : ∀ c ob, c ≠ o → h₅.get? c = some ob → h₈.get? c = some ob := fun c ob n1 h => e₈.extBut _ _ n1 (e₇.extBut _ _ n1 (Heap.get?_push_of_some _ h))
  have t₈ : IsPair h₈ h₅.objs.size u v := e₈.extBut _ _ (Nat.ne_of_gt lo) (e₇.extBut _ _ (Nat.ne_of_gt lo) (Heap.get?_push_size _ rfl))
  have sz8 : h₈.objs.size = h₅.objs.size + 1 := by rw [e₈.1, e₇.1, Heap.size_push]
  rw [sz] at z₈ t₈ sz8
  refine wpAny_pure ⟨_, rfl, ?_⟩
  show Q (.ref h₅.objs.size) _
  rw [sz]
  have fr1 : S (i + 1) h₈ := (D1 A hA).frame _ _ _ s1₅ fun b hb ob h => by
    rw [List.mem_singleton.mp hb] at h ⊢
    exact up _ _ ap.a3 h
  have fr2 : T (j + 1) h₈ := (D2 A hA).frame _ _ _ s2₅ fun b hb ob h => by
    rw [List.mem_singleton.mp hb] at h ⊢
    exact up _ _ ap.a4 h
  exact fin u v h₈ t2 hu hv z₈ (up _ _ ap.a2 o₅) fr1 fr2 t₈ sz8 fun c ob n1 n2 n3 n4 h => up c ob n1 (up5 c ob n1 n2 n3 n4 h)
/-- no next pair -/
theorem next_end {o ti to p q : Addr} {i j : Nat} {x y : Str} {S T : Nat → Heap → Prop} {a b : Value} {Q : Fin → Shared → Prop} (hA : A.handled = none) (ap : Ap o ti to p q) (D1 : Dr P w p x S) (D2 : Dr P w q y T)
    (zo : IsZip s.heap o ti to .none) (pI : IsPair s.heap ti (.ref p) (.ref q)) (pO : IsPair s.heap to a b) (k1 : S i s.heap) (k2 : T j s.heap) (l : i = x.cps.size ∨ i < x.cps.size ∧ j = y.cps.size)
    (fin : ∀ h' e tk, (∀ c ob, c ≠ o → c ≠ to → c ≠ p → c ≠ q → s.heap.get? c = some ob → h'.get? c = some ob) → (∃ oe, h'.get? e = some oe ∧ oe.cls = .type "StopIteration") → E (.ref e) { s with heap := h', toks := tk }) :
    wpAny (model P w) A (Builtin.«zip.__next__» ⟨[.ref o], []⟩) Q E s := by
  obtain ⟨hp, g, dn, t0, os⟩ := s
  show wpAny _ _ (field (.ref o) 2 >>= _) _ _ _
  refine wpAny_bind (wpAny_field zo rfl (x := .bool false) rfl ?_)
  show wpAny _ _ (field (.ref o) 3 >>= _) _ _ _
  refine wpAny_bind (wpAny_field zo rfl (x := .ref ti) rfl ?_)
  refine wpAny_bind (wpAny_seqItems pI rfl ?_)
  show wpAny _ _ (Builtin.SmallTypes.ownedTupleIsFree (.ref o) >>= _) _ _ _
  refine wpAny_bind (m := Builtin.SmallTypes.ownedTupleIsFree (.ref o)) ?_
  unfold Builtin.SmallTypes.ownedTupleIsFree
  refine wpAny_bind (wpAny_field zo rfl (x := .none) rfl (wpAny_pure ?_))
  simp only [if_true]
  refine wpAny_bind (wpAny_rule (wpAny_bind (wpAny_field zo rfl (x := .ref to) rfl (wpAny_bind (wpAny_setField_rec zo (by simp) fun h₁ z₁ e₁ => ?_)))))
  replace z₁ : IsZip h₁ o ti to .ellipsis := z₁
  replace e₁ : Heap.SameBut o hp h₁ := e₁
  refine wpAny_bind (m := forIn _ _ _) ?_
  simp only [List.zipIdx_cons, List.zipIdx_nil, List.forIn_cons, List.forIn_nil]
  refine wpAny_bind (wpAny_bind (wpAny_onRaise ?_))
  show wpAny _ _ (Builtin.SmallTypes.nextOf (.ref p) >>= _) _ _ ⟨h₁, g, dn, t0, os⟩
  rcases l with rfl | ⟨l1, rfl⟩
  · refine wpAny_bind ((D1 _ hA).done ⟨h₁, g, dn, t0, os⟩ _ _ (stE D1 hA k1 e₁.extBut ap.a3) fun h₂ e e₂ he => ?_)
    obtain ⟨oe, hoe, hce⟩ := he
    have z₂ : IsZip h₂ o ti to .ellipsis := e₂ _ _ ap.a3.symm z₁
    have ez : e ≠ o := fun c => by subst c; rw [z₂] at hoe; cases hoe; simp at hce
    exact wpAny_setField_rec (s := ⟨h₂, g, dn, t0, os⟩) z₂ (by simp) fun h₃ _ e₃ => fin h₃ e t0 (fun c ob n1 _ n3 _ h => e₃.extBut _ _ n1 (e₂ _ _ n3 (e₁.extBut _ _ n1 h))) ⟨oe, e₃.extBut _ _ ez hoe, hce⟩
  · refine wpAny_bind ((D1 _ hA).item i ⟨h₁, g, dn, t0, os⟩ _ _ l1 (stE D1 hA k1 e₁.extBut ap.a3) fun u h₂ t1 hu s₂ e₂ => wpAny_pure ?_)
    replace e₂ : Heap.SameBut p h₁ h₂ := e₂
    have o₂ : IsPair h₂ to a b := e₂.extBut _ _ ap.b4 (e₁.extBut _ _ ap.a2 pO)
    refine wpAny_bind (wpAny_seqItems (s := ⟨h₂, g, dn, t1, os⟩) o₂ rfl ?_)
    refine wpAny_bind (wpAny_updateSeq_pair (s := ⟨h₂, g, dn, t1, os⟩) o₂ fun h₃ o₃ e₃ => ?_)
    replace e₃ : Heap.SameBut to h₂ h₃ := e₃
    refine wpAny_bind (wpAny_letGo (wpAny_pure ?_))
    refine wpAny_bind (wpAny_bind (wpAny_onRaise ?_))
    show wpAny _ _ (Builtin.SmallTypes.nextOf (.ref q) >>= _) _ _ ⟨h₃, g, dn, t1, os⟩
    have st2 := stE D2 hA (stE D2 hA (stE D2 hA k2 e₁.extBut ap.a4) e₂.extBut ap.c1.symm) e₃.extBut ap.b5.symm
    refine wpAny_bind ((D2 _ hA).done ⟨h₃, g, dn, t1, os⟩ _ _ st2 fun h₄ e e₄ he => ?_)
    obtain ⟨oe, hoe, hce⟩ := he
    have z₄ : IsZip h₄ o ti to .ellipsis := e₄ _ _ ap.a4.symm (e₃.extBut _ _ ap.a2.symm (e₂.extBut _ _ ap.a3.symm z₁))
    have ez : e ≠ o := fun c => by subst c; rw [z₄] at hoe; cases hoe; simp at hce
    exact wpAny_setField_rec (s := ⟨h₄, g, dn, t1, os⟩) z₄ (by simp) fun h₅ _ e₅ => fin h₅ e t1 (fun c ob n1 n2 n3 n4 h => e₅.extBut _ _ n1 (e₄ _ _ n4 (e₃.extBut _ _ n2 (e₂.extBut _ _ n3 (e₁.extBut _ _ n1 h))))) ⟨oe, e₅.extBut _ _ ez hoe, hce⟩
theorem py_item {o ti to p q : Addr} {i j : Nat} {x y : Str} {S T : Nat → Heap → Prop} {a b : Value} {Q : Option Value → Shared → Prop} (hA : A.handled = none) (ap : Ap o ti to p q) (D1 : Dr P w p x S) (D2 : Dr P w q y T)
    (zo : IsZip s.heap o ti to .none) (pI : IsPair s.heap ti (.ref p) (.ref q)) (pO : IsPair s.heap to a b) (k1 : S i s.heap) (k2 : T j s.heap) (l1 : i < x.cps.size) (l2 : j < y.cps.size)
    (fin : ∀ u v h' tk, SignAt x i u → SignAt y j v → IsZip h' o ti to (rawInt s.heap.objs.size) → IsPair h' to u v → S (i + 1) h' → T (j + 1) h' → IsPair h' s.heap.objs.size u v → h'.objs.size = s.heap.objs.size + 1 →
      (∀ c ob, c ≠ o → c ≠ to → c ≠ p → c ≠ q → s.heap.get? c = some ob → h'.get? c = some ob) → Q (some (.ref s.heap.objs.size)) { s with heap := h', toks := tk }) :
    wpAny (model P w) A (pyNext (.ref o)) Q E s := by
  have ty : s.TypeIs (.ref o) "zip" := ⟨_, zo, rfl⟩
  unfold pyNext
  refine wpAny_bind (wpAny_attempt (wpAny_callSpecial?_slot (name := Str.ofString "__next__") ty F.slot_zip_next (wpAny_call_entry F.slot_zip_next ty F.entry_zip_next ?_ (F.args_zip_next_1 _))))
  exact next_item hA ap D1 D2 zo pI pO k1 k2 l1 l2 fun u v h' tk b1 b2 b3 b4 b5 b6 b7 b8 b9 => wpAny_pure (fin u v h' tk b1 b2 b3 b4 b5 b6 b7 b8 b9)
theorem py_end {o ti to p q : Addr} {i j : Nat} {x y : Str} {S T : Nat → Heap → Prop} {a b : Value} {Q : Option Value → Shared → Prop} (hA : A.handled = none) (ap : Ap o ti to p q) (D1 : Dr P w p x S) (D2 : Dr P w q y T)
    (zo : IsZip s.heap o ti to .none) (pI : IsPair s.heap ti (.ref p) (.ref q)) (pO : IsPair s.heap to a b) (k1 : S i s.heap) (k2 : T j s.heap) (l : i = x.cps.size ∨ i < x.cps.size ∧ j = y.cps.size)
    (fin : ∀ h' tk, (∀ c ob, c ≠ o → c ≠ to → c ≠ p → c ≠ q → s.heap.get? c = some ob → h'.get? c = some ob) → Q none { s with heap := h', toks := tk }) : wpAny (model P w) A (pyNext (.ref o)) Q E s := by
  have ty : s.TypeIs (.ref o) "zip" := ⟨_, zo, rfl⟩
  unfold pyNext
  refine wpAny_bind (wpAny_attempt (wpAny_callSpecial?_slot (name := Str.ofString "__next__") ty F.slot_zip_next (wpAny_call_entry F.slot_zip_next ty F.entry_zip_next (next_end hA ap D1 D2 zo pI pO k1 k2 l fun h' e tk hk he => ?_) (F.args_zip_next_1 _))))
  obtain ⟨oe, hoe, hce⟩ := he
  exact wpAny_bind (wpAny_isInstance (T := "StopIteration") (b := true) ⟨oe, hoe, hce⟩ isSubtype_stop (wpAny_pure (fin _ _ hk)))
end
/-- the iterator of a text -/
def itTy (x : Str) : String := if x.cps.all (· < 128) = true then "str_ascii_iterator" else "str_iterator"
theorem dr_str {P : Program} {w : World} {it : Addr} {x : Str} {t : Tok} : Dr P w it x (fun i h => h.IsStrIter it (itTy x) x t i) := fun A hA => by
  unfold itTy
  by_cases h : x.cps.all (· < 128) = true
  · simp only [h, if_true]
    exact Draws.strAscii hA it x t
  · simp only [h, if_false]
    exact Draws.strWide hA it x t
section
variable {P : Program} {w : World} {A : Around} {E : Value → Shared → Prop} {s : Shared}
theorem iter_str {x : Str} {t : Tok} {Q : Value → Shared → Prop} (fin : Q (.ref s.heap.objs.size) { s with heap := s.heap.push { cls := .type (itTy x), data := .fields #[.str x t, .int 0 0] } }) : wpAny (model P w) A (pyIter (.str x t)) Q E s := by
  unfold itTy at fin
  cases h : x.cps.all (· < 128)
  · rw [h] at fin
    exact wpAny_pyIter_wide h fin
  · rw [h] at fin
    exact wpAny_pyIter_ascii h fin
end
abbrev P1 (h : Heap) (x : Str) (t : Tok) : Heap := h.push { cls := .type (itTy x), data := .fields #[.str x t, .int 0 0] }
abbrev P2 (h : Heap) (x y : Str) (t u : Tok) : Heap := (P1 h x t).push { cls := .type (itTy y), data := .fields #[.str y u, .int 0 0] }
abbrev P3 (h : Heap) (x y : Str) (t u : Tok) : Heap := (P2 h x y t u).push { cls := .type "tuple", data := .seq #[.ref h.objs.size, .ref (P1 h x t).objs.size] }
abbrev P4 (h : Heap) (x y : Str) (t u : Tok) : Heap := (P3 h x y t u).push { cls := .type "tuple", data := .seq #[.none, .none] }
abbrev P5 (h : Heap) (x y : Str) (t u : Tok) : Heap := (P4 h x y t u).push { cls := .type "zip", data := .fields #[.none, .bool false, .bool false, .ref (P2 h x y t u).objs.size, .ref (P3 h x y t u).objs.size] }
theorem new_str (x y : Str) (t u : Tok) : Meets (Builtin.«zip.__new__» ⟨[.type "zip", .str x t, .str y u], []⟩) (fun _ R s => R (.ok (.ret (.ref (P4 s.heap x y t u).objs.size))) { s with heap := P5 s.heap x y t u }) :=
  .of_wp fun prog w A R s h => by
    obtain ⟨hp, g, d, tk, os⟩ := s
    have hsub := sub_zip
    wp_walk using iter_str, iter_str
    exact ⟨_, rfl, h⟩
section
variable {P : Program} {w : World} {A : Around} {E : Value → Shared → Prop} {s : Shared}
theorem call_str {x y : Str} {t u : Tok} {Q : Value → Shared → Prop}
    (fin : ∀ h', IsZip h' (s.heap.objs.size + 4) (s.heap.objs.size + 2) (s.heap.objs.size + 3) .none → IsPair h' (s.heap.objs.size + 2) (.ref s.heap.objs.size) (.ref (s.heap.objs.size + 1)) → IsPair h' (s.heap.objs.size + 3) .none .none →
      h'.IsStrIter s.heap.objs.size (itTy x) x t 0 → h'.IsStrIter (s.heap.objs.size + 1) (itTy y) y u 0 → (∀ c ob, s.heap.get? c = some ob → h'.get? c = some ob) → Q (.ref (s.heap.objs.size + 4)) { s with heap := h' }) :
    wpAny (model P w) A (call (.type "zip") [.str x t, .str y u]) Q E s := by
  refine callType_new F.called_zip (by decide) (F.typeCall_zip_2 _ _) (F.newCall_zip_2 _ _) (fun obj => F.args_object_init_3 obj _ _) F.entry_zip_new (new_str x y t u) ?_
  have z1 : (P1 s.heap x t).objs.size = s.heap.objs.size + 1 := Heap.size_push ..
  have z2 : (P2 s.heap x y t u).objs.size = s.heap.objs.size + 2 := (Heap.size_push ..).trans (by rw [z1])
  have z3 : (P3 s.heap x y t u).objs.size = s.heap.objs.size + 3 := (Heap.size_push ..).trans (by rw [z2])
  have z4 : (P4 s.heap x y t u).objs.size = s.heap.objs.size + 4 := (Heap.size_push ..).trans (by rw [z3])
  have w5 : (P5 s.heap x y t u).get? (P4 s.heap x y t u).objs.size = some _ := Heap.get?_push_size _ rfl
  have w4 : (P5 s.heap x y t u).get? (P3 s.heap x y t u).objs.size = some _ := Heap.get?_push_of_some _ (Heap.get?_push_size _ rfl)
  have w3 : (P5 s.heap x y t u).get? (P2 s.heap x y t u).objs.size = some _ := Heap.get?_push_of_some _ (Heap.get?_push_of_some _ (Heap.get?_push_size _ rfl))
  have w2 : (P5 s.heap x y t u).get? (P1 s.heap x t).objs.size = some _ := Heap.get?_push_of_some _ (Heap.get?_push_of_some _ (Heap.get?_push_of_some _ (Heap.get?_push_size _ rfl)))
  have w1 : (P5 s.heap x y t u).get? s.heap.objs.size = some _ := Heap.get?_push_of_some _ (Heap.get?_push_of_some _ (Heap.get?_push_of_some _ (Heap.get?_push_of_some _ (Heap.get?_push_size _ rfl))))
  show _ ∧ _
  rw [z2, z3, z4] at w5
  rw [z1, z2] at w3
  rw [z3] at w4
  rw [z1] at w2
  rw [z4]
  refine ⟨⟨_, w5, rfl⟩, fin _ w5 w3 w4 ⟨_, w1, rfl, rfl⟩ ⟨_, w2, rfl, rfl⟩ fun c ob h => ?_⟩
  exact Heap.get?_push_of_some _ (Heap.get?_push_of_some _ (Heap.get?_push_of_some _ (Heap.get?_push_of_some _ (Heap.get?_push_of_some _ h))))
end
/-- the signs of two texts, side by side -/
def ItzS (x y : Str) : It :=
  ⟨fun i _ => i < x.cps.size ∧ i < y.cps.size,
    fun i H v H' => ∃ (T : Addr) (c d : Nat), v = .ref T ∧ H T = none ∧ x.cps[i]? = some c ∧ y.cps[i]? = some d ∧ H' = upd H T (.tup [.str ⟨#[c]⟩, .str ⟨#[d]⟩]),
    fun i _ => i = x.cps.size ∨ i < x.cps.size ∧ i = y.cps.size⟩
theorem turn_zipS {P : Program} {w : World} {K : PySem.W.Frag} {elts : List Expr} {kk : Nat} {tpos : Pos} {x y : Str} {t u : Tok} {o ti to p q : Addr} (ap : Ap o ti to p q) :
    Turn P w K (.Tuple elts kk tpos) (ItzS x y) [o, ti, to, p, q] o (fun i h => IsZip h o ti to .none ∧ IsPair h ti (.ref p) (.ref q) ∧ (∃ a b, IsPair h to a b) ∧ h.IsStrIter p (itTy x) x t i ∧ h.IsStrIter q (itTy y) y u i) where
  mem := .head _
  obj := fun i h st c hc => by
    obtain ⟨k1, k2, ⟨a, b, k3⟩, ⟨o1, e1, _, d1⟩, ⟨o2, e2, _, d2⟩⟩ := st
    have hc' : c = o ∨ c = ti ∨ c = to ∨ c = p ∨ c = q := by simpa using hc
    rcases hc' with rfl | rfl | rfl | rfl | rfl
    · exact ⟨_, k1, fun v n => nomatch n⟩
    · exact ⟨_, k2, fun v n => nomatch n⟩
    · exact ⟨_, k3, fun v n => nomatch n⟩
    · exact ⟨o1, e1, fun v n => by rw [d1] at n; cases n⟩
    · exact ⟨o2, e2, fun v n => by rw [d2] at n; cases n⟩
  keep := fun i h h' st k => by
    obtain ⟨k1, k2, ⟨a, b, k3⟩, ⟨o1, e1, r1⟩, ⟨o2, e2, r2⟩⟩ := st
    exact ⟨k o (by simp) _ k1, k ti (by simp) _ k2, ⟨a, b, k to (by simp) _ k3⟩, ⟨o1, k p (by simp) _ e1, r1⟩, ⟨o2, k q (by simp) _ e2, r2⟩⟩
  item := by
    intro X hP hw hK hc i pins s σ H E I hf st hg
    subst hP hw hK
    obtain ⟨k1, k2, ⟨a, b, k3⟩, k4, k5⟩ := st
    obtain ⟨l1, l2⟩ := hg
    have ol : o < s.heap.objs.size := Heap.lt_size k1
    refine py_item (I.ok.hd hc) ap dr_str dr_str k1 k2 k3 k4 k5 l1 l2 fun c d h' tk hcu hdv z' o' s1' s2' hT hsz hk => ?_
    obtain ⟨cc, tc, hcc, rfl⟩ := hcu
    obtain ⟨dd, td, hdd, rfl⟩ := hdv
    refine ⟨_, rfl, wpAny_letOwnedTupleGo_zip (s := { s with heap := h', toks := tk }) z' fun h'' z'' sb => ?_⟩
    have hT2 : h''.get? s.heap.objs.size = some { cls := .type "tuple", data := .seq #[.str ⟨#[cc]⟩ tc, .str ⟨#[dd]⟩ td] } := (sb.2 _ (Nat.ne_of_gt ol)).trans hT
    have new : ObjOk X.prog X.w (upd H s.heap.objs.size (.tup [.str ⟨#[cc]⟩, .str ⟨#[dd]⟩])) h'' s.heap.objs.size (.tup [.str ⟨#[cc]⟩, .str ⟨#[dd]⟩]) :=
      ⟨by show 2 ≤ sizeLine; decide, [.str ⟨#[cc]⟩ tc, .str ⟨#[dd]⟩ td], .cons ⟨tc, rfl⟩ (.cons ⟨td, rfl⟩ .nil), ⟨_, hT2, rfl, _, rfl⟩⟩
    have I1 : Inv X pins σ (upd H s.heap.objs.size (.tup [.str ⟨#[cc]⟩, .str ⟨#[dd]⟩])) { s with heap := h'', toks := tk } :=
      I.turnedNew (t' := tk) (ch := [o, ti, to, p, q]) (fun c ob hb e => (sb.2 c (fun n => hb (by simp [n]))).trans (hk c ob (fun n => hb (by simp [n])) (fun n => hb (by simp [n])) (fun n => hb (by simp [n])) (fun n => hb (by simp [n])) e)) hf (Nat.le_refl _) new
    refine ⟨.ref s.heap.objs.size, _, I1, rfl, ⟨_, cc, dd, rfl, I.hok.fresh (Nat.le_refl _), hcc, hdd, rfl⟩, ⟨z'', ?_, ⟨_, _, (sb.2 _ ap.a2).trans o'⟩, ?_, ?_⟩, fun c hcm => ?_⟩
    · exact (sb.2 _ ap.a1).trans (hk _ _ ap.a1 ap.b1 ap.b2 ap.b3 k2)
    · obtain ⟨ob, e, r⟩ := s1'
      exact ⟨ob, (sb.2 _ ap.a3).trans e, r⟩
    · obtain ⟨ob, e, r⟩ := s2'
      exact ⟨ob, (sb.2 _ ap.a4).trans e, r⟩
    · have lt : c < s.heap.objs.size := by
        have hc' : c = o ∨ c = ti ∨ c = to ∨ c = p ∨ c = q := by simpa using hcm
        rcases hc' with rfl | rfl | rfl | rfl | rfl
        · exact ol
        · exact Heap.lt_size k2
        · exact Heap.lt_size k3
        · obtain ⟨_, e, _⟩ := k4; exact Heap.lt_size e
        · obtain ⟨_, e, _⟩ := k5; exact Heap.lt_size e
      rw [upd_ne (Nat.ne_of_lt lt)]
      exact (hf c hcm).1
  done := by
    intro X hP hw hK hc i pins s σ H E I hf st hg
    subst hP hw hK
    obtain ⟨k1, k2, ⟨a, b, k3⟩, k4, k5⟩ := st
    refine py_end (I.ok.hd hc) ap dr_str dr_str k1 k2 k3 k4 k5 hg fun h' tk hk => ⟨rfl, I.turnedL (t' := tk) (ch := [o, ti, to, p, q]) (fun c ob hb e => ?_) hf⟩
    exact hk c ob (fun n => hb (by simp [n])) (fun n => hb (by simp [n])) (fun n => hb (by simp [n])) (fun n => hb (by simp [n])) e
  self := fun A i s Q E st h => wpAny_pyIter_zip st.1 h
def iZipS (ta : TA) : TI := fun σ H R => ta σ H fun vs H1 => ∃ x y : Str, vs = [.str x, .str y] ∧ R (ItzS x y) H1
theorem pi_zipS {X : Cx} {e e2 : Expr} {ta : TA} {p pos tpos : Pos} {elts : List Expr} {kk : Nat} (hg : Gl X "zip") (hm : X.mg "zip" = none) (ha : PA X [e, e2] ta)
    (h1 : starEach [e, e2] X.env = (false, eval e X.env) :: starEach [e2] X.env := by rfl) (h2 : (backTo pos (starEach [e2] X.env)).any (·.1) = false := by rfl) : PI X (.Tuple elts kk tpos) (.Call (.Name "zip" p) [e, e2] [] pos) (iZipS ta) := by
  refine ⟨fun pins s σ H R I h => ?_⟩
  refine Call_ (ld_blt I hg hm PyProof.Rows.boot_zip (PyProof.Rows.callWith_type1 (thn (ha.run pos pins s σ H _ I h) fun us s1 ⟨vs, H1, I1, r1, x, y, ex, q⟩ => ?_) h1 h2))
  subst ex
  cases r1 with
  | cons r rr =>
    cases rr with
    | cons r' rr =>
      cases rr
      obtain ⟨t, rfl⟩ := r
      obtain ⟨u, rfl⟩ := r'
      refine call_str fun h' k1 k2 k3 k4 k5 hk => wpAny_pyIter_zip k1 ?_
      have I2 : Inv X pins σ H1 { s1 with heap := h' } := I1.kept (t' := s1.toks) hk
      refine ⟨s1.heap.objs.size + 4, [s1.heap.objs.size + 4, s1.heap.objs.size + 2, s1.heap.objs.size + 3, s1.heap.objs.size, s1.heap.objs.size + 1], _, _, H1, rfl, I2, turn_zipS (t := t) (u := u) (ap_new _), ⟨k1, k2, ⟨_, _, k3⟩, k4, k5⟩, fun c hc => ?_, q⟩
      have le : s1.heap.objs.size ≤ c := by
        simp only [List.mem_cons, List.not_mem_nil, or_false] at hc
        rcases hc with e | e | e | e | e <;> subst e <;> first | exact Nat.le_refl _ | exact Nat.le_add_right _ _
      exact I1.fpOk le (I1.hok.fresh le)
/-- a loop over zip of two texts of one length -/
theorem for_zipS {l m : List Nat} {g : TG} {tb : TS} {D : Ends} {σ : L2.St} {H : Hp} (hl : l.length = m.length) (Pv : Nat → L2.St → Hp → Prop) (h0 : Pv 0 σ H)
    (hs : ∀ (i c d : Nat) (T : Addr) (σ : L2.St) (H : Hp), l[i]? = some c → m[i]? = some d → Pv i σ H → H T = none → g (.ref T) σ (upd H T (.tup [.str (SX.S [c]), .str (SX.S [d])])) fun σ2 H2 => tb { D with nx := Pv (i + 1), ct := Pv (i + 1), bk := D.nx } σ2 H2) (hd : ∀ σ H, Pv l.length σ H → D.nx σ H) :
    ∃ W : Nat → Nat → L2.St → Hp → Prop, (∃ m, W 0 m σ H) ∧ ∀ i n σ H, W i n σ H →
      ((ItzS (SX.S l) (SX.S m)).stop i H ∧ D.nx σ H) ∨ ((ItzS (SX.S l) (SX.S m)).go i H ∧ ∃ N : L2.St → Hp → Prop, (∀ σ' H', N σ' H' → ∃ m', m' < n ∧ W (i + 1) m' σ' H') ∧ ∀ v H', (ItzS (SX.S l) (SX.S m)).yld i H v H' → g v σ H' fun σ2 H2 => tb { D with nx := N, ct := N, bk := D.nx } σ2 H2) := by
  refine ⟨fun i n σ H => n = l.length - i ∧ i ≤ l.length ∧ Pv i σ H, ⟨l.length, rfl, Nat.zero_le _, h0⟩, ?_⟩
  rintro i n σ H ⟨rfl, hi, pv⟩
  by_cases lt : i < l.length
  · refine .inr ⟨⟨show i < l.length from lt, show i < m.length by omega⟩, Pv (i + 1), fun σ' H' p' => ⟨l.length - (i + 1), by omega, rfl, lt, p'⟩, fun v H' y => ?_⟩
    obtain ⟨T, c, d, rfl, hT, hc, hd', rfl⟩ := y
    exact hs i c d T σ H (by rw [← hc]; simp [SX.S]) (by rw [← hd']; simp [SX.S]) pv hT
  · have e : i = l.length := by omega
    subst e
    exact .inl ⟨.inl rfl, hd σ H pv⟩
end WZ
namespace WP
open PySem PySem.Spec PyProof.Rows L2 WZ
theorem zipS {ta : TA} {σ : L2.St} {H : Hp} {R : It → Hp → Prop} (h : ta σ H fun vs H1 => ∃ x y : Str, vs = [.str x, .str y] ∧ R (ItzS x y) H1) : iZipS ta σ H R := h
theorem Sm.mut {H H' : Hp} {p : Addr} {xs ys : List V} (e : Sm H H') (h : H p = none) (hp : H' p = some (.lst xs)) : Sm H (upd H' p (.lst ys)) := by
  refine ⟨fun b u hb nt => ?_, fun P hP => ?_⟩
  · rw [upd_ne (ne_of_none hb h)]
    exact e.k b u hb nt
  · obtain ⟨ps, h1, h2⟩ := e.t P hP
    have n : P ≠ p := fun z => by rw [z, hp] at h1; cases h1
    exact ⟨ps, by rw [upd_ne n]; exact h1, h2⟩
/-- a comprehension over zip of two texts of one length -/
theorem lc_zipS {l m : List Nat} {g : TG} {tt : TT} {te : TE} {vs : List Nat} {σ : L2.St} {H1 : Hp} {D : Addr} {Qd : Hp → Prop} (hl : l.length = m.length) (Pv : Nat → Hp → Prop) (h0 : Pv 0 (upd H1 D (.lst [])))
    (hs : ∀ (i c d : Nat) (T : Addr) (H : Hp), l[i]? = some c → m[i]? = some d → Pv i H → H T = none → g (.ref T) (wipe σ vs) (upd H T (.tup [.str (SX.S [c]), .str (SX.S [d])])) fun σ2 H2 => wipe σ2 vs = wipe σ vs ∧ tt σ2 H2 fun b H3 =>
      if b = true then te σ2 H3 fun y H4 => ∃ acc, H4 D = some (.lst acc) ∧ acc.length < sizeLine ∧ Pv (i + 1) (upd H4 D (.lst (acc ++ [y]))) else Pv (i + 1) H3) (hd : ∀ H, Pv l.length H → Qd H) :
    ∃ W : Nat → Nat → Hp → Prop, (∃ m, W 0 m (upd H1 D (.lst []))) ∧ ∀ i n H, W i n H →
      ((ItzS (SX.S l) (SX.S m)).stop i H ∧ Qd H) ∨ ((ItzS (SX.S l) (SX.S m)).go i H ∧ ∃ Nx : Hp → Prop, (∀ H', Nx H' → ∃ m', m' < n ∧ W (i + 1) m' H') ∧ ∀ x H', (ItzS (SX.S l) (SX.S m)).yld i H x H' → g x (wipe σ vs) H' fun σ2 H2 => wipe σ2 vs = wipe σ vs ∧ tt σ2 H2 fun b H3 =>
        if b = true then te σ2 H3 fun y H4 => ∃ acc, H4 D = some (.lst acc) ∧ acc.length < sizeLine ∧ Nx (upd H4 D (.lst (acc ++ [y]))) else Nx H3) := by
  refine ⟨fun i n H => n = l.length - i ∧ i ≤ l.length ∧ Pv i H, ⟨l.length, rfl, Nat.zero_le _, h0⟩, ?_⟩
  rintro i n H ⟨rfl, hi, pv⟩
  by_cases lt : i < l.length
  · refine .inr ⟨⟨show i < l.length from lt, show i < m.length by omega⟩, Pv (i + 1), fun H' p' => ⟨l.length - (i + 1), by omega, rfl, lt, p'⟩, fun v H' y => ?_⟩
    obtain ⟨T, c, d, rfl, hT, hc, hd', rfl⟩ := y
    exact hs i c d T H (by rw [← hc]; simp [SX.S]) (by rw [← hd']; simp [SX.S]) pv hT
  · have e : i = l.length := by omega
    subst e
    exact .inl ⟨.inl rfl, hd H pv⟩
end WP

namespace WP
open PySem PySem.Spec PyProof.Rows L2
/-! ### lists of counts and of truths -/
abbrev iL (l : List Nat) : List V := l.map fun (w : Nat) => V.int (w : Int)
abbrev bL (l : List Bool) : List V := l.map V.bl
section
variable {K : PySem.W.Frag} {H : Hp} {p : Addr} {Q : VK} {l : List Nat} {bs : List Bool} {j : Nat}
theorem at_iL (h : j < l.length) : atI (iL l) (j : Int) = some (.int ((l.getD j 0 : Nat) : Int)) := atI_nat (by rw [List.getElem?_map, List.getElem?_eq_getElem h, List.getD_eq_getElem?_getD, List.getElem?_eq_getElem h]; rfl)
theorem at_bL (h : j < bs.length) : atI (bL bs) (j : Int) = some (.bl (bs.getD j false)) := atI_nat (by rw [List.getElem?_map, List.getElem?_eq_getElem h, List.getD_eq_getElem?_getD, List.getElem?_eq_getElem h]; rfl)
theorem at_rev {v : Nat} {q : List Nat} : atI (iL (v :: q).reverse) (-1) = some (.int (v : Int)) := by
  rw [List.reverse_cons, show iL (q.reverse ++ [v]) = iL q.reverse ++ [.int (v : Int)] from List.map_append]
  exact atI_last _ _
theorem set_iL {v : Nat} : (iL l).set j (.int (v : Int)) = iL (l.set j v) := by unfold iL; rw [List.map_set]
theorem set_bL {b : Bool} : (bL bs).set j (.bl b) = bL (bs.set j b) := by unfold bL; rw [List.map_set]
theorem app_iL {v : Nat} : iL l ++ [.int (v : Int)] = iL (l ++ [v]) := by unfold iL; rw [List.map_append]; rfl
theorem app_rev {v : Nat} {q : List Nat} : iL q.reverse ++ [.int (v : Int)] = iL (v :: q).reverse := by rw [List.reverse_cons, app_iL]
theorem setN {xs : List V} {v : V} {R : Hp → Prop} (hp : H p = some (.lst xs)) (hj : j < xs.length) (q : R (upd H p (.lst (xs.set j v)))) : rSetL (.ref p) (.int (j : Int)) v H R := setL hp (Evl.ixN_nat hj) q
theorem popRev {v : Nat} {r : List Nat} (hp : H p = some (.lst (iL (v :: r).reverse))) (q : Q (.int (v : Int)) (upd H p (.lst (iL r.reverse)))) : rPop (.ref p) [] H Q := by
  refine ⟨p, _, .int (v : Int), rfl, rfl, hp, ?_, ?_⟩
  · unfold iL
    rw [List.reverse_cons, List.map_append, List.length_append]
    show (_ ++ [V.int (v : Int)])[_ + 1 - 1]? = _
    rw [Nat.add_sub_cancel, List.getElem?_append_right (Nat.le_refl _), Nat.sub_self]; rfl
  · unfold iL at q ⊢
    rw [List.reverse_cons, List.map_append]
    show Q _ (upd H p (.lst ((_ ++ [V.int (v : Int)]).dropLast)))
    rw [List.dropLast_concat]; exact q
theorem tr_rev {v : Nat} {q : List Nat} : (!(iL (v :: q).reverse).isEmpty) = true := by
  unfold iL
  rw [List.reverse_cons, List.map_append]
  cases List.map (fun (w : Nat) => V.int (w : Int)) q.reverse <;> rfl
theorem trL {xs : List V} (h : SqL K H p xs) : TruV K (.ref p) H (!xs.isEmpty) := .inl ⟨xs, h, rfl⟩
end
section
variable {K : PySem.W.Frag} {H : Hp} {p : Addr} {Q : VK} {l : List Nat} {v : Nat}
theorem inV_N : ∀ {l : List Nat}, inV (.int (v : Int)) (iL l) = decide (v ∈ l)
  | [] => rfl
  | a :: l => by
    show (eqV (.int (a : Int)) (.int (v : Int)) || inV (.int (v : Int)) (iL l)) = _
    rw [inV_N]
    show (((a : Int) == (v : Int)) || _) = _
    by_cases h : a = v
    · subst h; simp
    · rw [show ((a : Int) == (v : Int)) = false from by rw [beq_eq_false_iff_ne]; omega, Bool.false_or]
      congr 1
      exact propext ⟨fun z => List.mem_cons_of_mem _ z, fun z => by
        rcases List.mem_cons.mp z with z | z
        · exact absurd z.symm h
        · exact z⟩
theorem flat_N : ∀ (l : List Nat), (iL l).all flatV = true
  | [] => rfl
  | a :: l => flat_N l
theorem inNL (h : SqL K H p (iL l)) (q : Q (.bl (decide (v ∈ l))) H) : rIn K false (.int (v : Int)) (.ref p) H Q := ⟨p, _, rfl, .inl h, rfl, flat_N l, by rw [inV_N]; exact q⟩
theorem inNT (h : SqT K H p (iL l)) (q : Q (.bl (decide (v ∈ l))) H) : rIn K false (.int (v : Int)) (.ref p) H Q := ⟨p, _, rfl, .inr h, rfl, flat_N l, by rw [inV_N]; exact q⟩
theorem notInNL (h : SqL K H p (iL l)) (q : Q (.bl (!decide (v ∈ l))) H) : rIn K true (.int (v : Int)) (.ref p) H Q := ⟨p, _, rfl, .inl h, rfl, flat_N l, by rw [inV_N]; exact q⟩
theorem notInNT (h : SqT K H p (iL l)) (q : Q (.bl (!decide (v ∈ l))) H) : rIn K true (.int (v : Int)) (.ref p) H Q := ⟨p, _, rfl, .inr h, rfl, flat_N l, by rw [inV_N]; exact q⟩
/-- sorted(a list of counts) -/
theorem sortedN (h : SqL K H p (iL l)) (hz : l.length < 64) (q : ∀ (l' : List Nat) (a : Addr), l'.Perm l → H a = none → Q (.ref a) (upd H a (.lst (iL l')))) : rSorted K [.ref p] H Q := by
  refine ⟨p, l.map fun (w : Nat) => (w : Int), rfl, by rw [List.map_map]; exact h, by rw [List.length_map]; exact hz, fun ns' a hp _ ha => ?_⟩
  have e2 : ns'.map V.int = iL (ns'.map Int.toNat) := by
    unfold iL
    rw [List.map_map]
    refine List.map_congr_left fun x hx => ?_
    obtain ⟨w, _, rfl⟩ := List.mem_map.mp ((hp.mem_iff).mp hx)
    rfl
  rw [e2]
  refine q _ a ?_ ha
  have := hp.map Int.toNat
  rw [List.map_map] at this
  rw [show l.map (Int.toNat ∘ fun (w : Nat) => (w : Int)) = l from by simp [Function.comp_def]] at this
  exact this
end
section
variable {σ : L2.St} {H : Hp} {D : Ends} {Q : VK} {td ty tv : TE} {d : Addr} {kvs : List (Key × V)} {i : Int} {v : V}
theorem dnewK (q : ∀ p, H p = none → Q (.ref p) (upd H p (.dK []))) : tDNewK σ H Q := q
theorem din (h : ty σ H fun y H1 => td σ H1 fun x H2 => ∃ a o, x = .ref a ∧ DGet H2 a y o ∧ Q (.bl o.isSome) H2) : tDIn ty td σ H Q := h
theorem dnotin (h : ty σ H fun y H1 => td σ H1 fun x H2 => ∃ a o, x = .ref a ∧ DGet H2 a y o ∧ Q (.bl (!o.isSome)) H2) : tDNotIn ty td σ H Q := h
theorem dput (h : tv σ H fun v H1 => td σ H1 fun x H2 => ty σ H2 fun y H3 => ∃ a H4, x = .ref a ∧ DPut H3 a y v H4 ∧ D.nx σ H4) : sDPut td ty tv D σ H := h
theorem inK (hd : H d = some (.dK kvs)) (q : Q (.bl (valV kvs (Sum.inl i)).isSome) H) : ∃ a o, V.ref d = .ref a ∧ DGet H a (.int i) o ∧ Q (.bl o.isSome) H := ⟨d, _, rfl, DGet.k (k := Sum.inl i) hd, q⟩
theorem notInK (hd : H d = some (.dK kvs)) (q : Q (.bl (!(valV kvs (Sum.inl i)).isSome)) H) : ∃ a o, V.ref d = .ref a ∧ DGet H a (.int i) o ∧ Q (.bl (!o.isSome)) H := ⟨d, _, rfl, DGet.k (k := Sum.inl i) hd, q⟩
theorem getK (hd : H d = some (.dK kvs)) (e : valV kvs (Sum.inl i) = some v) (q : Q v H) : ∃ a v, V.ref d = .ref a ∧ DGet H a (.int i) (some v) ∧ Q v H := ⟨d, v, rfl, e ▸ DGet.k (k := Sum.inl i) hd, q⟩
theorem gotK (hd : H d = some (.dK kvs)) (e : valV kvs (Sum.inl i) = some v) : DGet H d (.int i) (some v) := e ▸ DGet.k (k := Sum.inl i) hd
theorem putKI {R : Hp → Prop} (hd : H d = some (.dK kvs)) (hl : kvs.length < sizeLine) (q : R (upd H d (.dK (putK kvs (Sum.inl i) v)))) : ∃ a H4, V.ref d = .ref a ∧ DPut H a (.int i) v H4 ∧ R H4 := ⟨d, _, rfl, DPut.k (k := Sum.inl i) hd hl, q⟩
end
theorem ix_tupK {X : Cx} {K : PySem.W.Frag} (h : X.K = K) : IxR X (rIxT K) := by subst h; exact ix_tup
theorem ix_listK {X : Cx} {K : PySem.W.Frag} (h : X.K = K) : IxR X (rIxL K) := by subst h; exact ix_list
theorem tupRev {K : PySem.W.Frag} {te : TE} {σ : L2.St} {H : Hp} {Q : VK} (h : te σ H fun v H1 => ∃ (a : Addr) (xs : List V), v = .ref a ∧ SqL K H1 a xs ∧ ∀ q, H1 q = none → Q (.ref q) (upd H1 q (.tup xs.reverse))) : RT.tTupRev K te σ H Q := h
theorem rev {K : PySem.W.Frag} {ta : TA} {σ : L2.St} {H : Hp} {R : It → Hp → Prop} (h : ta σ H fun vs H1 => ∃ (a : Addr) (xs : List V), vs = [.ref a] ∧ SqL K H1 a xs ∧ R (Itv K a xs.length) H1) : iRev K ta σ H R := h
end WP

namespace WP
open PySem PySem.Spec PyProof.Rows L2
/-! ### own classes -/
structure ClsOk (K : PySem.W.Frag) (mg : MG) (nm : Str) (at' : List Str) : Prop where
  m : mg nm = some (.ref (ca mg nm))
  c : Cls K (ca mg nm)
  n : ∀ f ∈ at', NoAttr K (ca mg nm) f
theorem ClsOk.mk' {K : PySem.W.Frag} {mg : MG} {nm : Str} {at' : List Str} {C : Addr} (h : mg nm = some (.ref C)) (c : Cls K C) (n : ∀ f ∈ at', NoAttr K C f) : ClsOk K mg nm at' := by
  have e := ca_of h
  exact ⟨by rw [e]; exact h, by rw [e]; exact c, by rw [e]; exact n⟩
/-- a method that may be called -/
structure CalleeM (P : Program) (w : World) (K : PySem.W.Frag) (mg : MG) (base : Heap) (CX : CXT) (lv : Nat) (nm m : Str) (ps : List Str) (sp : Sp) : Prop where
  ex : ∃ (f : Addr) (fd : FuncData), FnOk P w K mg base CX lv f fd ps sp ∧ Meth K (ca mg nm) m f ∧ Binds K fd ps []
theorem CalleeM.mk' {P : Program} {w : World} {K : PySem.W.Frag} {mg : MG} {base : Heap} {CX : CXT} {lv : Nat} {nm m : Str} {ps : List Str} {sp : Sp} {C f : Addr} {fd : FuncData}
    (h : FnOk P w K mg base CX lv f fd ps sp) (hc : mg nm = some (.ref C)) (hm : Meth K C m f) (b : Binds K fd ps []) : CalleeM P w K mg base CX lv nm m ps sp := ⟨⟨f, fd, h, by rw [ca_of hc]; exact hm, b⟩⟩
/-- a class that may be made -/
structure CalleeI (P : Program) (w : World) (K : PySem.W.Frag) (mg : MG) (base : Heap) (CX : CXT) (lv : Nat) (nm : Str) (ps : List Str) (sp : Sp) : Prop where
  ex : ∃ (f : Addr) (fd : FuncData), FnOk P w K mg base CX lv f fd ps sp ∧ Mk K (ca mg nm) f ∧ Binds K fd ps []
theorem CalleeI.mk' {P : Program} {w : World} {K : PySem.W.Frag} {mg : MG} {base : Heap} {CX : CXT} {lv : Nat} {nm : Str} {ps : List Str} {sp : Sp} {C f : Addr} {fd : FuncData}
    (h : FnOk P w K mg base CX lv f fd ps sp) (hc : mg nm = some (.ref C)) (hm : Mk K C f) (b : Binds K fd ps []) : CalleeI P w K mg base CX lv nm ps sp := ⟨⟨f, fd, h, by rw [ca_of hc]; exact hm, b⟩⟩
section
variable {K : PySem.W.Frag} {σ : L2.St} {H : Hp} {Q : VK} {ta tv : TE} {t : TA} {f m : Str} {p C dx : Addr} {fs : List (Str × V)} {v : V} {D : Ends} {sp : Sp} {dvs : List V} {E : XK} {mg : MG} {nm : Str} {at' : List Str}
/-- steps -/
theorem fld (h : ta σ H fun x H1 => ∃ a C dx fs v, x = .ref a ∧ H1 a = some (.ins C dx fs) ∧ Cls K C ∧ NoAttr K C f ∧ fs.lookup f = some v ∧ Q v H1) : tFld K ta f σ H Q := h
theorem fldA (k : ClsOk K mg nm at') (hp : H p = some (.ins (ca mg nm) dx fs)) (hl : fs.lookup f = some v) (q : Q v H) (hm : f ∈ at' := by decide +kernel) :
    ∃ a C dx fs v, V.ref p = .ref a ∧ H a = some (.ins C dx fs) ∧ Cls K C ∧ NoAttr K C f ∧ fs.lookup f = some v ∧ Q v H := ⟨p, _, dx, fs, v, rfl, hp, k.c, k.n f hm, hl, q⟩
theorem sfld (h : tv σ H fun y H1 => ta σ H1 fun x H2 => ∃ a C dx fs, x = .ref a ∧ H2 a = some (.ins C dx fs) ∧ Cls K C ∧ NoAttr K C f ∧ fs.length < 1000 ∧ D.nx σ (upd H2 a (.ins C dx (putF f y fs)))) : sFld K ta tv f D σ H := h
theorem sfldA {R : Hp → Prop} (k : ClsOk K mg nm at') (hp : H p = some (.ins (ca mg nm) dx fs)) (hl : fs.length < 1000) (q : R (upd H p (.ins (ca mg nm) dx (putF f v fs)))) (hm : f ∈ at' := by decide +kernel) :
    ∃ a C dx fs, V.ref p = .ref a ∧ H a = some (.ins C dx fs) ∧ Cls K C ∧ NoAttr K C f ∧ fs.length < 1000 ∧ R (upd H a (.ins C dx (putF f v fs))) := ⟨p, _, dx, fs, rfl, hp, k.c, k.n f hm, hl, q⟩
theorem meth (h : ta σ H fun x H1 => ∃ a dx fs, x = .ref a ∧ H1 a = some (.ins C dx fs) ∧ fs.lookup m = none ∧ t σ H1 fun vs H2 => sp (x :: (vs ++ dvs)) H2 Q E) : tMeth C m sp dvs E ta t σ H Q := h
theorem methA {R : Hp → Prop} (hp : H p = some (.ins C dx fs)) (hl : fs.lookup m = none) (q : R H) : ∃ a dx fs, V.ref p = .ref a ∧ H a = some (.ins C dx fs) ∧ fs.lookup m = none ∧ R H := ⟨p, dx, fs, rfl, hp, hl, q⟩
theorem make (h : t σ H fun vs H1 => ∀ x dx, H1 x = none → H1 dx = none → dx ≠ x → sp (.ref x :: (vs ++ dvs)) (upd (upd H1 dx (.own x)) x (.ins C dx [])) (fun v H2 => v = .non ∧ Q (.ref x) H2) E) : tMake C sp dvs E t σ H Q := h
end
theorem same_made {H : Hp} {x dx C : Addr} (nx : H x = none) (nd : H dx = none) : Same H (upd (upd H dx (.own x)) x (.ins C dx [])) := fun b o e => by
  rw [upd_ne (ne_of_none e nx), upd_ne (ne_of_none e nd)]
  exact e
/-! ### list of a text -/
def rListS : List V → Hp → VK → Prop := fun xs H Q => ∃ l : List Nat, xs = [.str (SX.S l)] ∧ l.length ≤ sizeLine ∧ ∀ p, H p = none → Q (.ref p) (upd H p (.lst ((l.map fun c => SX.S [c]).map V.str)))
theorem signs_vals {l : List Nat} {acc : Array Value} (h : ItemsOf (SignAt (SX.S l)) acc (SX.S l).cps.size) : Vals ((l.map fun c => SX.S [c]).map V.str) acc.toList := by
  obtain ⟨h1, h2⟩ := h
  have hs : (SX.S l).cps.size = l.length := by simp [SX.S]
  rw [hs] at h1
  have g : ∀ (xs : List Nat) (us : List Value), xs.length = us.length → (∀ (j : Nat) (u : Value), us[j]? = some u → ∃ (c : Nat) (t : Tok), xs[j]? = some c ∧ u = .str ⟨#[c]⟩ t) → Vals ((xs.map fun c => SX.S [c]).map V.str) us := by
    intro xs
    induction xs with
    | nil =>
      intro us hl _
      have : us = [] := List.length_eq_zero_iff.mp hl.symm
      subst this
      exact .nil
    | cons x xs ih =>
      intro us hl hu
      match us, hl, hu with
      | u :: us, hl, hu =>
        obtain ⟨c, t, hc, rfl⟩ := hu 0 u rfl
        cases hc
        exact .cons ⟨t, rfl⟩ (ih us (by simpa using hl) fun j u' hj => hu (j + 1) u' hj)
  refine g l acc.toList (h1.symm.trans Array.length_toList.symm) fun j u hj => ?_
  rw [Array.getElem?_toList] at hj
  obtain ⟨c, t, hc, e⟩ := h2 j u hj
  refine ⟨c, t, ?_, e⟩
  rw [← hc]; simp [SX.S]
theorem c_listS {X : Cx} (hc : X.calm = true) : CallR X (.type "list") rListS := by
  intro pins s σ H xs us Q I r h
  obtain ⟨l, rfl, hl, q⟩ := h
  obtain ⟨u, rfl, rx⟩ := vals1 r
  obtain ⟨t, rfl⟩ := rx
  have hz : (SX.S l).cps.size ≤ sizeLine := by
    have : (SX.S l).cps.size = l.length := by simp [SX.S]
    omega
  refine call_list_str (I.ok.hd hc) (SX.S l) t (fun h' tk acc' c' kp e hit => ?_) hz
  refine ⟨.ref s.heap.objs.size, _, I.laid (t' := tk) kp (Nat.le_refl _) (show ObjOk X.prog X.w _ h' _ (.lst ((l.map fun c => SX.S [c]).map V.str)) from ⟨?_, acc'.toList, c', signs_vals hit, ?_⟩), rfl, q _ (I.hok.fresh (Nat.le_refl _))⟩
  · rw [List.length_map, List.length_map]; exact hl
  · exact e
theorem listS {l : List Nat} {H : Hp} {Q : VK} (hl : l.length ≤ sizeLine) (q : ∀ p, H p = none → Q (.ref p) (upd H p (.lst ((l.map fun c => SX.S [c]).map V.str)))) : rListS [.str (SX.S l)] H Q := ⟨l, rfl, hl, q⟩
/-! ### xs[a:b] = ys -/
def gSl (to : TE) (tl th : TO) : TG := fun v σ H QS => to σ H fun o H1 => tl σ H1 fun a H2 => th σ H2 fun c H3 => ∃ (p b : Addr) (xs ys : List V) (i j : Int), o = .ref p ∧ a = some i ∧ c = some j ∧ v = .ref b ∧ H3 p = some (.lst xs) ∧ H3 b = some (.lst ys) ∧ p ≠ b ∧ 0 ≤ i ∧ i ≤ j ∧ j ≤ xs.length ∧ xs.length + ys.length ≤ sizeLine ∧
  QS σ (upd H3 p (.lst (xs.take i.toNat ++ ys ++ xs.drop j.toNat)))
theorem pg_sl {X : Cx} {o : Expr} {lo hi : Option Expr} {p2 pos : Pos} {to : TE} {tl th : TO} (ho : PE X o to) (hl : PO X lo tl) (hu : PO X hi th)
    (ha : ∀ v, assign (.Subscript o (.Slice lo hi none p2) pos) X.env v = (do
      let q ← holding [v] (eval o X.env)
      let z ← holding [v, q] (eval (.Slice lo hi none p2) X.env)
      standAt pos
      holding [v, q, z] (setItem q z v)
      release [z, v, q] []) := by intro _; rfl) : PG X (.Subscript o (.Slice lo hi none p2) pos) (gSl to tl th) := by
  refine ⟨fun pins s σ H v u Q I r h => ?_⟩
  rw [ha]
  refine wpAny_bind (wpAny_holding (thn (ho.run pins s σ H _ I h) fun ov s1 ⟨x, H1, I1, r1, q1⟩ => ?_))
  refine wpAny_bind (wpAny_holding (wpAny_Slice (thn (hl.run pins s1 σ H1 _ I1 q1) fun vl s2 ⟨l, H2, I2, pl, q2⟩ => thn (hu.run pins s2 σ H2 _ I2 q2) fun vu s3 ⟨w, H3, I3, pu, q3⟩ => ?_)))
  rw [evalPart_none]
  refine wpAny_pure ?_
  obtain ⟨p, b, xs, ys, i, j, e1, e2, e3, e4, h1, h2, n, b0, b1, b2, hz, q⟩ := q3
  subst e1 e2 e3 e4
  have I4 : Inv X pins σ H3 { s3 with heap := s3.heap.push { cls := .type "slice", data := .fields #[vl, vu, .none] } } := I3.kept (t' := s3.toks) fun _ _ e => Heap.get?_push_of_some _ e
  cases r1
  cases r
  have ri : RelV (.int i) vl := by cases pl; exact ⟨_, rfl⟩
  have rj : RelV (.int j) vu := by cases pu; exact ⟨_, rfl⟩
  refine wpAny_bind (wpAny_standAt (wpAny_bind (wpAny_holding (set_slice I4 h1 h2 n (Heap.IsSliceOf.new ..) ri rj b0 b1 b2 hz fun s' I5 => ?_))))
  exact wpAny_release ⟨σ, _, I5, q⟩
theorem gsl {to : TE} {tl th : TO} {v : V} {σ : L2.St} {H : Hp} {QS : L2.St → Hp → Prop} (h : to σ H fun o H1 => tl σ H1 fun a H2 => th σ H2 fun c H3 => ∃ (p b : Addr) (xs ys : List V) (i j : Int), o = .ref p ∧ a = some i ∧ c = some j ∧ v = .ref b ∧ H3 p = some (.lst xs) ∧ H3 b = some (.lst ys) ∧ p ≠ b ∧ 0 ≤ i ∧ i ≤ j ∧ j ≤ xs.length ∧ xs.length + ys.length ≤ sizeLine ∧
  QS σ (upd H3 p (.lst (xs.take i.toNat ++ ys ++ xs.drop j.toNat)))) : gSl to tl th v σ H QS := h
/-- a list's slice -/
theorem slL {K : PySem.W.Frag} {p : Addr} {xs : List V} {lo hi : Option Int} {H : Hp} {Q : VK} (h : SqL K H p xs) (q : ∀ a, H a = none → Q (.ref a) (upd H a (.lst (cutV xs lo hi)))) : rSlL K (.ref p) lo hi H Q := ⟨p, xs, rfl, h, q⟩
theorem cut_nat {xs : List V} {i j : Nat} (h : i ≤ j) (hj : j ≤ xs.length) : cutV xs (some (i : Int)) (some (j : Int)) = (xs.drop i).take (j - i) := by
  have e1 : HT.sIx xs.length 0 (some (i : Int)) = i := by
    show (if (i : Int) < 0 then ((i : Int) + (xs.length : Int)).toNat else min (i : Int).toNat xs.length) = i
    rw [if_neg (by omega)]; omega
  have e2 : HT.sIx xs.length xs.length (some (j : Int)) = j := by
    show (if (j : Int) < 0 then ((j : Int) + (xs.length : Int)).toNat else min (j : Int).toNat xs.length) = j
    rw [if_neg (by omega)]; omega
  unfold cutV
  rw [e1, e2]
/-- all(xs) -/
theorem allL {K : PySem.W.Frag} {p : Addr} {bs : List Bool} {H : Hp} {Q : VK} (h : SqL K H p (bs.map V.bl)) (q : Q (.bl (bs.all _root_.id)) H) : rAll K [.ref p] H Q := ⟨p, bs, rfl, h, q⟩
theorem lookS {f : Str} {v : V} : List.lookup f [(f, v)] = some v := by
  show (match f == f with | true => some v | false => _) = some v
  rw [beq_self_eq_true]
section
variable {K : PySem.W.Frag} {σ : L2.St} {H : Hp} {Q : VK} {ta : TE} {f m : Str} {p dx C : Addr} {fs : List (Str × V)} {v : V} {mg : MG} {nm : Str} {at' : List Str} {i : Nat} {sp : Sp} {dvs : List V} {E : XK} {t : TA}
theorem fldV (k : ClsOk K mg nm at') (hv : σ[i]? = some (some (.ref p))) (hp : H p = some (.ins (ca mg nm) dx fs)) (hl : fs.lookup f = some v) (hm : f ∈ at') (q : Q v H) : tFld K (tVar i) f σ H Q := ⟨.ref p, hv, p, _, dx, fs, v, rfl, hp, k.c, k.n f hm, hl, q⟩
theorem fldG (k : ClsOk K mg nm at') (hm : f ∈ at') (q : ta σ H fun x H1 => ∃ p dx fs v, x = .ref p ∧ H1 p = some (.ins (ca mg nm) dx fs) ∧ fs.lookup f = some v ∧ Q v H1) (mono : ∀ (R R' : VK), (∀ x H, R x H → R' x H) → ta σ H R → ta σ H R') : tFld K ta f σ H Q :=
  mono _ _ (fun x H1 ⟨p, dx, fs, v, e, hp, hl, q⟩ => ⟨p, _, dx, fs, v, e, hp, k.c, k.n f hm, hl, q⟩) q
theorem methV (hv : σ[i]? = some (some (.ref p))) (hp : H p = some (.ins C dx fs)) (hl : fs.lookup m = none) (q : t σ H fun vs H2 => sp (.ref p :: (vs ++ dvs)) H2 Q E) : tMeth C m sp dvs E (tVar i) t σ H Q := ⟨.ref p, hv, p, dx, fs, rfl, hp, hl, q⟩
end
end WP

namespace WP
open PySem PySem.Spec PyProof.Rows L2
/-! ### exceptions with an own __init__ that stores fields -/
structure ExiOk (K : PySem.W.Frag) (mg : MG) (nm : Str) (ats : List Str) : Prop where
  m : mg nm = some (.ref (ca mg nm))
  o : OexC K (ca mg nm)
  x : XfC K (ca mg nm)
  n : ∀ f ∈ ats, PySem.W.findIn K (.ref (ca mg nm)) f = some none
  c : ExcC K (ca mg nm)
theorem ExiOk.mk' {K : PySem.W.Frag} {mg : MG} {nm : Str} {C : Addr} {ats : List Str} (h : mg nm = some (.ref C)) (o : OexC K C) (x : XfC K C) (n : ∀ f ∈ ats, PySem.W.findIn K (.ref C) f = some none) (c : ExcC K C) : ExiOk K mg nm ats := by
  have e := ca_of h
  exact ⟨by rw [e]; exact h, by rw [e]; exact o, by rw [e]; exact x, by rw [e]; exact n, by rw [e]; exact c⟩
theorem ExiOk.catches {K : PySem.W.Frag} {mg : MG} {nm : Str} {ats : List Str} (x : ExiOk K mg nm ats) {cls : Value} {b : Bool} (h : PySem.W.subIn K cls (.ref (ca mg nm)) = some b) : PySem.W.exmOne K cls (.ref (ca mg nm)) = some b := PySem.W.exm_ref x.o.exC x.x.hdC x.o.tyC h
structure CalleeE (P : Program) (w : World) (K : PySem.W.Frag) (mg : MG) (base : Heap) (CX : CXT) (lv : Nat) (nm : Str) (ps : List Str) (sp : Sp) : Prop where
  ex : ∃ (f : Addr) (fd : FuncData), FnOk P w K mg base CX lv f fd ps sp ∧ PySem.W.findIn K (.ref (ca mg nm)) "__init__" = some (some (.ref f)) ∧ PySem.W.typeIn K (.ref f) = some (.type "function") ∧ Binds K fd ps []
theorem CalleeE.mk' {P : Program} {w : World} {K : PySem.W.Frag} {mg : MG} {base : Heap} {CX : CXT} {lv : Nat} {nm : Str} {ps : List Str} {sp : Sp} {C f : Addr} {fd : FuncData}
    (h : FnOk P w K mg base CX lv f fd ps sp) (hc : mg nm = some (.ref C)) (hi : PySem.W.findIn K (.ref C) "__init__" = some (some (.ref f))) (ht : PySem.W.typeIn K (.ref f) = some (.type "function")) (b : Binds K fd ps []) : CalleeE P w K mg base CX lv nm ps sp := ⟨⟨f, fd, h, by rw [ca_of hc]; exact hi, ht, b⟩⟩
section
variable {X : Cx} {x : Str} {e : Expr} {es : List Expr} {ta : TA} {p pos pos2 : Pos} {W : WX} {CX : CXT} {k : Nat} {ps : List Str} {sp : Sp} {ats : List Str}
theorem ps_raiseE (hc : X.calm = true) (tk : Takes X W) (o : ExiOk X.K X.mg x ats) (c : CalleeE X.prog X.w X.K X.mg X.base CX k x ps sp) (hr : Room (k + 1) X.A) (hx : Passes CX X (fun _ _ _ => False)) (hg : Gl X x) (ha : PA X (e :: es) ta)
    (nd : (x == ("__debug__" : Str)) = false := by decide) (sh : starEach (e :: es) X.env = (false, eval e X.env) :: starEach es X.env := by rfl) (sp1 : (backTo pos (starEach es X.env)).any (·.1) = false := by rfl) :
    PS X (.Raise (some (.Call (.Name x p) (e :: es) [] pos)) none pos2) (fun _ σ H => tMkO (ca X.mg x) sp [] ta σ H fun cls d H' => W cls d σ H') := by
  obtain ⟨f, fd, F, hi, ht, b⟩ := c.ex
  exact ps_raise hc tk (pmk_oex o.o hi ht F hr b .nil hx hg o.m ha nd sh sp1)
end
end WP
namespace WP
open PySem PySem.Spec PyProof.Rows L2
/-- what a store into self asks behind its value y and its object z -/
def OstQ (K : PySem.W.Frag) (f : Str) (D : Ends) (σ : L2.St) (y z : V) (G : Hp) : Prop :=
  ∃ b B : Addr, z = .ref b ∧ OexC K B ∧ PySem.W.findIn K (.ref B) f = some none ∧ ((G b = some (exo b B none) ∧ ∀ dy, G dy = none → dy ≠ b → D.nx σ (upd (upd G dy (exd dy [(f, y)])) b (exo b B (some dy)))) ∨
    ∃ (dy : Addr) (gs : List (Str × V)), G b = some (exo b B (some dy)) ∧ G dy = some (exd dy gs) ∧ gs.length ≤ 900 ∧ D.nx σ (upd G dy (exd dy ((f, y) :: gs))))
theorem ost {K : PySem.W.Frag} {f : Str} {to te : TE} {D : Ends} {σ : L2.St} {H : Hp} (h : te σ H fun y H1 => to σ H1 fun z G => OstQ K f D σ y z G) : tOst K f to te D σ H := h
end WP
namespace WP
open PySem PySem.Spec PyProof.Rows L2
theorem mko {C : Addr} {sp : Sp} {dvs : List V} {ta : TA} {σ : L2.St} {H : Hp} {Q : XK} (h : ta σ H fun vs H1 => vs.length ≤ 1000 ∧ ∀ a, H1 a = none → sp (.ref a :: (vs ++ dvs)) (upd H1 a (exo a C none))
  (fun v H2 => v = .non ∧ ∃ (d : Addr) (fs : List (Str × V)), H2 a = some (exo a C (some d)) ∧ H2 d = some (exd d fs) ∧ H1 d = none ∧ Q (.ref C) (some d) (upd (del H2 a) d (.xd fs))) (fun _ _ _ => False)) : tMkO C sp dvs ta σ H Q := h
end WP

namespace MD
open WP
/-- the least scale: zeros at the end are dropped -/
def nrm : Int → Nat → Int × Nat
  | u, 0 => (u, 0)
  | u, s + 1 => if u % 10 = 0 then nrm (u / 10) s else (u, s + 1)
theorem nrm_le : ∀ (s : Nat) (u : Int), (nrm u s).2 ≤ s
  | 0, u => Nat.le_refl _
  | s + 1, u => by
    unfold nrm
    split
    · exact Nat.le_succ_of_le (nrm_le s _)
    · exact Nat.le_refl _
theorem nrm_val : ∀ (s : Nat) (u : Int), (nrm u s).1 * 10 ^ (s - (nrm u s).2) = u
  | 0, u => by unfold nrm; simp
  | s + 1, u => by
    unfold nrm
    split
    · rename_i h
      have ih := nrm_val s (u / 10)
      have l := nrm_le s (u / 10)
      have e : s + 1 - (nrm (u / 10) s).2 = (s - (nrm (u / 10) s).2) + 1 := by omega
      rw [e, Int.pow_succ, ← Int.mul_assoc, ih]
      omega
    · simp
/-- a decimal: the scale is the least one -/
def Dec (u : Int) (s : Nat) : Prop := s = 0 ∨ u % 10 ≠ 0
theorem nrm_dec : ∀ (s : Nat) (u : Int), Dec (nrm u s).1 (nrm u s).2
  | 0, u => .inl rfl
  | s + 1, u => by
    unfold nrm
    split
    · exact nrm_dec s _
    · rename_i h; exact .inr h
theorem nrm_self {u : Int} {s : Nat} (h : Dec u s) : nrm u s = (u, s) := by
  cases s with
  | zero => rfl
  | succ s =>
    unfold nrm
    rcases h with h | h
    · cases h
    · rw [if_neg h]
theorem nrm_up : ∀ (m s : Nat) (u : Int), nrm (u * 10 ^ m) (s + m) = nrm u s
  | 0, s, u => by simp
  | m + 1, s, u => by
    have e : u * 10 ^ (m + 1) = u * 10 ^ m * 10 := by rw [Int.pow_succ, Int.mul_assoc]
    rw [← Nat.add_assoc, e]
    show (if (u * 10 ^ m * 10) % 10 = 0 then nrm (u * 10 ^ m * 10 / 10) (s + m) else _) = _
    rw [if_pos (Int.mul_emod_left _ _), Int.mul_ediv_cancel _ (by decide)]
    exact nrm_up m s u
theorem nrm_abs : ∀ (s : Nat) (u : Int), (nrm u s).1.natAbs ≤ u.natAbs
  | 0, u => Nat.le_refl _
  | s + 1, u => by
    unfold nrm
    split
    · have := nrm_abs s (u / 10)
      omega
    · exact Nat.le_refl _
theorem nrm_bt {u : Int} {s a : Nat} (h : Bt u a) : Bt (nrm u s).1 a := h.le (nrm_abs s u)
end MD
namespace MD
theorem nrm_eq (u : Int) (s : Nat) : (nrm u s).1 * 10 ^ s = u * 10 ^ (nrm u s).2 := by
  have h := nrm_val s u
  have l := nrm_le s u
  have e : (10 : Int) ^ s = 10 ^ (s - (nrm u s).2) * 10 ^ (nrm u s).2 := by rw [← Int.pow_add]; congr 1; omega
  rw [e, ← Int.mul_assoc, h]
end MD

namespace MP
open PySem PySem.Spec PyProof.Rows L2
open SX (S)
/-- a picture with digits: a number picture or an edited one -/
inductive Pic where
  | num (sg : Bool) (w f : Nat)
  | ed (body : List Nat) (w f : Nat) (sign : List Nat)
def Pic.wh : Pic → Nat
  | .num _ w _ => w
  | .ed _ w _ _ => w
def Pic.fr : Pic → Nat
  | .num _ _ f => f
  | .ed _ _ f _ => f
def Pic.n (p : Pic) : Nat := p.wh + p.fr
def Pic.sgd : Pic → Bool
  | .num sg _ _ => sg
  | .ed _ _ _ s => !decide (s = [])
/-- the sign as the text is written -/
def Pic.sgn : Pic → List Nat
  | .num sg _ _ => if sg then [43] else []
  | .ed _ _ _ s => s
def Pic.vs : Pic → List V
  | .num sg w f => [.str (S [110, 117, 109, 98, 101, 114]), .bl sg, .int (w : Int), .int (f : Int)]
  | .ed b w f s => [.str (S [101, 100, 105, 116, 101, 100]), .str (S b), .int (w : Int), .int (f : Int), .str (S s)]
/-- z * 9 -/
def isD (c : Nat) : Bool := c == 122 || c == 42 || c == 57
/-- , b 0 / -/
def isI (c : Nat) : Bool := c == 44 || c == 98 || c == 48 || c == 47
def okM (c : Nat) : Bool := isD c || c == 46 || isI c
def signs : List (List Nat) := [[], [45], [43], [46, 45], [46, 43], [99, 114], [100, 98]]
structure Body (b : List Nat) (n : Nat) : Prop where
  hd : ∃ c r, b = c :: r ∧ isD c = true
  ok : ∀ c ∈ b, okM c = true
  ct : (b.filter isD).length = n
  ln : b.length ≤ 60
def Pic.Ok : Pic → Prop
  | .num _ w f => 1 ≤ w + f ∧ w + f ≤ 18
  | .ed b w f s => 1 ≤ w + f ∧ w + f ≤ 18 ∧ Body b (w + f) ∧ s ∈ signs
theorem Pic.Ok.n1 {p : Pic} (h : p.Ok) : 1 ≤ p.n ∧ p.n ≤ 18 := by
  cases p with
  | num sg w f => exact h
  | ed b w f s => exact ⟨h.1, h.2.1⟩
/-- what an inserted mark becomes -/
def insM (c : Nat) : Nat := if c = 98 then 32 else c
def bodyF (fill : Nat) : Bool → List Nat → List Nat → List Nat
  | _, [], _ => []
  | hid, m :: ms, fs =>
    if isD m then
      (match fs with
      | [] => []
      | c :: cs => let h := hid && (!(m == 57)) && (c == 48); (if h then fill else c) :: bodyF fill h ms cs)
    else if m = 46 then 46 :: bodyF fill false ms fs
    else (if hid then fill else insM m) :: bodyF fill hid ms fs
def hd (b : List Nat) : Nat := b.headD 0
def fillOf (b : List Nat) : Nat := if hd b = 42 then 42 else 32
def bodyText (b fs : List Nat) : List Nat := bodyF (fillOf b) (!(hd b == 57)) b fs
def signText (s : List Nat) (neg : Bool) : List Nat :=
  if s = [99, 114] then (if neg then [67, 82] else [32, 32]) else if s = [100, 98] then (if neg then [68, 66] else [32, 32])
  else if s = [] then [] else if neg then [45] else if s = [43] ∨ s = [46, 43] then [43] else [32]
/-- the text of a field -/
def writ : Pic → Int → List Nat
  | .num sg w f, u => signText (if sg then [43] else []) (decide (u < 0)) ++ WP.padL (w + f) u.natAbs
  | .ed b w f s, u => if s = [45] ∨ s = [43] then signText s (decide (u < 0)) ++ bodyText b (WP.padL (w + f) u.natAbs) else bodyText b (WP.padL (w + f) u.natAbs) ++ signText s (decide (u < 0))
def Suits (p : Pic) (u : Int) : Prop := u.natAbs < 10 ^ p.n ∧ (0 ≤ u ∨ p.sgd = true)
instance {p : Pic} {u : Int} : Decidable (Suits p u) := by unfold Suits; infer_instance
end MP
namespace MP
theorem drop_some {l : List Nat} {i c : Nat} (h : l[i]? = some c) : l.drop i = c :: l.drop (i + 1) := by
  obtain ⟨hi, e⟩ := List.getElem?_eq_some_iff.mp h
  rw [List.drop_eq_getElem_cons hi, e]
theorem memD (c : Nat) : decide ([c] ∈ [[122], [42], [57]]) = isD c := by
  unfold isD
  by_cases h1 : c = 122
  · subst h1; rfl
  by_cases h2 : c = 42
  · subst h2; rfl
  by_cases h3 : c = 57
  · subst h3; rfl
  rw [decide_eq_false (by simp [h1, h2, h3])]
  simp [h1, h2, h3]
theorem memH {c : Nat} (h : isD c = true) : decide ([c] ∈ [[122], [42]]) = !(c == 57) := by
  have h' : c = 122 ∨ c = 42 ∨ c = 57 := by simpa [isD, or_assoc] using h
  rcases h' with rfl | rfl | rfl <;> rfl
theorem bodyF_D {fill m : Nat} {hid : Bool} {ms cs : List Nat} {c : Nat} (h : isD m = true) : bodyF fill hid (m :: ms) (c :: cs) = (if (hid && (!(m == 57)) && (c == 48)) = true then fill else c) :: bodyF fill (hid && (!(m == 57)) && (c == 48)) ms cs := by
  rw [bodyF, if_pos h]
theorem bodyF_P {fill : Nat} {hid : Bool} {ms fs : List Nat} : bodyF fill hid (46 :: ms) fs = 46 :: bodyF fill false ms fs := by
  conv => lhs; unfold bodyF
  show (if isD 46 = true then _ else if (46 : Nat) = 46 then _ else _) = _
  rw [if_neg (by decide), if_pos rfl]
theorem bodyF_I {fill m : Nat} {hid : Bool} {ms fs : List Nat} (h : isD m = false) (h2 : m ≠ 46) : bodyF fill hid (m :: ms) fs = (if hid = true then fill else insM m) :: bodyF fill hid ms fs := by
  conv => lhs; unfold bodyF
  show (if isD m = true then _ else if m = 46 then _ else _) = _
  rw [if_neg (by rw [h]; decide), if_neg h2]
end MP
namespace MP
def bodies : List (List Nat) := [[122, 122, 57], [122, 122, 122], [122, 57], [57], [42, 42, 42], [42, 42, 57], [122, 122, 44, 122, 122, 57], [42, 42, 44, 42, 42, 42], [57, 57, 47, 57, 57], [122, 44, 122, 122, 57, 98, 57], [57, 98, 57], [122, 48, 122], [57, 57], [122, 98, 57]]
theorem bodies_ok : ∀ b ∈ bodies, ∀ f < 4, (b ++ [46] ++ [57, 57, 57].take f).head?.any isD = true ∧ (b ++ [46] ++ [57, 57, 57].take f).all okM = true ∧ (b ++ [46] ++ [57, 57, 57].take f).length ≤ 60 ∧
    ((b ++ [46] ++ [57, 57, 57].take f).filter isD).length = (b.filter isD).length + f ∧ 1 ≤ (b.filter isD).length ∧ (b.filter isD).length ≤ 5 ∧ b.head?.any isD = true ∧ b.all okM = true ∧ b.length ≤ 60 := by decide
theorem body_of {b : List Nat} {n : Nat} (h1 : b.head?.any isD = true) (h2 : b.all okM = true) (h3 : b.length ≤ 60) (h4 : (b.filter isD).length = n) : Body b n := by
  refine ⟨?_, fun c hc => List.all_eq_true.mp h2 c hc, h4, h3⟩
  cases b with
  | nil => cases h1
  | cons c r => exact ⟨c, r, rfl, h1⟩
theorem memI (c : Nat) : decide (c ∈ [122, 42, 57]) = isD c := by
  rw [← memD]
  congr 1
  simp
end MP
namespace MP
open PySem PySem.Spec PyProof.Rows L2
open SX (S)
theorem at_w (p : Pic) : atI p.vs (2 : Int) = some (.int (p.wh : Int)) := by cases p <;> exact WP.at2
theorem at_f (p : Pic) : atI p.vs (3 : Int) = some (.int (p.fr : Int)) := by cases p <;> exact WP.at3
/-- picture[1] if picture[0] == 'number' else picture[4] != '' -/
theorem sgdE {K : PySem.W.Frag} {σ : L2.St} {H : Hp} {Q : VK} {i : Nat} {p : Addr} {pic : Pic} (hv : σ[i]? = some (some (.ref p))) (hp : SqT K H p pic.vs) (q : Q (.bl pic.sgd) H) :
    tIf (tTest (tOp rEq (tOp (rIxT K) (tVar i) (tC (.int 0))) (tC (.str (S [110, 117, 109, 98, 101, 114]))))) (tOp (rIxT K) (tVar i) (tC (.int 1))) (tOp rNe (tOp (rIxT K) (tVar i) (tC (.int 4))) (tC (.str (S [])))) σ H Q := by
  refine WP.ifE (WP.test (WP.op (WP.op (WP.var hv (WP.con ?_)))))
  cases pic with
  | num sg a b =>
    refine WP.ixT hp WP.at0 (WP.con (WP.eqTS ?_))
    refine WP.isbV (R := fun b => if b = true then _ else _) ?_
    refine WP.brT (by decide) (WP.op (WP.var hv (WP.con (WP.ixT hp WP.at1 q))))
  | ed m a b s =>
    refine WP.ixT hp WP.at0 (WP.con (WP.eqTS ?_))
    refine WP.isbV (R := fun b => if b = true then _ else _) ?_
    refine WP.brF (by decide) (WP.op (WP.op (WP.var hv (WP.con (WP.ixT hp WP.at4 (WP.con (WP.neTS q)))))))
theorem ten_cast (n : Nat) : ((10 ^ n : Nat) : Int) = (10 : Int) ^ n := by rw [Int.natCast_pow]; rfl
theorem suits_abs {pic : Pic} {u : Int} (h0 : 0 ≤ u) (h : u < 10 ^ pic.n) : Suits pic u := ⟨by have := ten_cast pic.n; omega, .inl h0⟩
end MP
namespace MP
theorem memJ (c : Nat) : decide (c ∈ [44, 98, 48, 47]) = isI c := by
  unfold isI
  by_cases h1 : c = 44
  · subst h1; rfl
  by_cases h2 : c = 98
  · subst h2; rfl
  by_cases h3 : c = 48
  · subst h3; rfl
  by_cases h4 : c = 47
  · subst h4; rfl
  rw [decide_eq_false (by simp [h1, h2, h3, h4])]
  simp [h1, h2, h3, h4]
theorem bodyF_lt (fill : Nat) (hf : fill < 128) : ∀ (ms : List Nat) (hid : Bool) (fs : List Nat), (∀ c ∈ ms, okM c = true) → (∀ c ∈ fs, c < 128) → ∀ c ∈ bodyF fill hid ms fs, c < 128
  | [], hid, fs, _, _, c, hc => by unfold bodyF at hc; cases hc
  | m :: ms, hid, fs, h1, h2, c, hc => by
    have ok := h1 m (.head _)
    have h1' : ∀ c ∈ ms, okM c = true := fun c hc => h1 c (.tail _ hc)
    cases hD : isD m with
    | true =>
      cases fs with
      | nil =>
        unfold bodyF at hc
        rw [if_pos hD] at hc
        cases hc
      | cons d ds =>
        rw [bodyF_D hD] at hc
        have h2' : ∀ c ∈ ds, c < 128 := fun c hc => h2 c (.tail _ hc)
        rcases List.mem_cons.mp hc with e | e
        · rw [e]
          split
          · exact hf
          · exact h2 d (.head _)
        · exact bodyF_lt fill hf ms _ ds h1' h2' c e
    | false =>
      by_cases h46 : m = 46
      · subst h46
        rw [bodyF_P] at hc
        rcases List.mem_cons.mp hc with e | e
        · rw [e]; decide
        · exact bodyF_lt fill hf ms _ fs h1' h2 c e
      · rw [bodyF_I hD h46] at hc
        rcases List.mem_cons.mp hc with e | e
        · rw [e]
          split
          · exact hf
          · have hI : m = 44 ∨ m = 98 ∨ m = 48 ∨ m = 47 := by
              have : (m == 46) = false := beq_eq_false_iff_ne.mpr h46
              simpa [okM, hD, this, isI, or_assoc] using ok
            rcases hI with rfl | rfl | rfl | rfl <;> decide
        · exact bodyF_lt fill hf ms _ fs h1' h2 c e
theorem padL_lt : ∀ (k n c : Nat), c ∈ WP.padL k n → c < 128
  | 0, _, _, h => by cases h
  | k + 1, n, c, h => by
    rcases List.mem_append.mp (show c ∈ WP.padL k (n / 10) ++ [48 + n % 10] from h) with e | e
    · exact padL_lt k _ c e
    · rw [List.mem_singleton.mp e]; omega
theorem signText_lt : ∀ s ∈ signs, ∀ neg : Bool, ∀ c ∈ signText s neg, c < 128 := by decide
theorem writ_ok {pic : Pic} {u : Int} (h : pic.Ok) : WP.SOk (SX.S (writ pic u)) := WP.sok_S fun c hc => by
  have : c < 128 := by
    cases pic with
    | num sg w f =>
      rcases List.mem_append.mp (show c ∈ signText (if sg then [43] else []) (decide (u < 0)) ++ WP.padL (w + f) u.natAbs from hc) with e | e
      · refine signText_lt _ ?_ _ c e
        cases sg
        · exact (show ([] : List Nat) ∈ signs by decide)
        · exact (show ([43] : List Nat) ∈ signs by decide)
      · exact padL_lt _ _ c e
    | ed b w f s =>
      have hb : ∀ c ∈ bodyText b (WP.padL (w + f) u.natAbs), c < 128 := bodyF_lt _ (by unfold fillOf; split <;> decide) _ _ _ h.2.2.1.ok (fun c hc => padL_lt _ _ c hc)
      have hs := signText_lt s h.2.2.2 (decide (u < 0))
      have hc' : c ∈ (if s = [45] ∨ s = [43] then signText s (decide (u < 0)) ++ bodyText b (WP.padL (w + f) u.natAbs) else bodyText b (WP.padL (w + f) u.natAbs) ++ signText s (decide (u < 0))) := hc
      split at hc'
      · rcases List.mem_append.mp hc' with e | e
        · exact hs c e
        · exact hb c e
      · rcases List.mem_append.mp hc' with e | e
        · exact hb c e
        · exact hs c e
  omega
end MP
namespace MP
theorem due_eq {pic : Pic} {u : Int} : (decide ((u.natAbs : Int) < 10 ^ pic.n) && (decide (0 ≤ u) || pic.sgd)) = decide (Suits pic u) := by
  have c := ten_cast pic.n
  have e : ((u.natAbs : Int) < 10 ^ pic.n) ↔ u.natAbs < 10 ^ pic.n := by omega
  rw [Bool.eq_iff_iff, Bool.and_eq_true, Bool.or_eq_true, decide_eq_true_eq, decide_eq_true_eq, decide_eq_true_eq]
  unfold Suits
  rw [e]
end MP

namespace MP
theorem suits_cut {pic : Pic} {u : Int} : Suits pic (if u < 0 ∧ pic.sgd = true then -((u.natAbs : Int) % 10 ^ pic.n) else (u.natAbs : Int) % 10 ^ pic.n) := by
  have c := ten_cast pic.n
  have hT : (0 : Int) < 10 ^ pic.n := Int.pow_pos (by decide)
  have h0 := Int.emod_nonneg (u.natAbs : Int) (show (10 : Int) ^ pic.n ≠ 0 by omega)
  have h1 := Int.emod_lt_of_pos (u.natAbs : Int) hT
  generalize (u.natAbs : Int) % 10 ^ pic.n = x at h0 h1 ⊢
  split
  · rename_i h
    exact ⟨by omega, .inr h.2⟩
  · exact ⟨by omega, .inl h0⟩
end MP

namespace MW
open PySem PySem.Spec PyProof.Rows L2
open SX (S)
def FIG : List Nat := [48, 49, 50, 51, 52, 53, 54, 55, 56, 57]
def LET : List Nat := [97, 98, 99, 100, 101, 102, 103, 104, 105, 106, 107, 108, 109, 110, 111, 112, 113, 114, 115, 116, 117, 118, 119, 120, 121, 122]
/-- the printable signs -/
def PRN : List Nat := [32, 33, 34, 35, 36, 38, 39, 40, 41, 42, 43, 44, 45, 46, 47, 48, 49, 50, 51, 52, 53, 54, 55, 56, 57, 58, 59, 60, 61, 62, 63, 64, 65, 66, 67, 68, 69, 70, 71, 72, 73, 74, 75, 76, 77, 78, 79, 80, 81, 82, 83, 84, 85, 86, 87, 88, 89, 90, 91, 92, 93, 94, 95, 96, 97, 98, 99, 100, 101, 102, 103, 104, 105, 106, 107, 108, 109, 110, 111, 112, 113, 114, 115, 116, 117, 118, 119, 120, 121, 122, 123, 124, 125, 126]
def allIn (l cs : List Nat) : Bool := l.all fun c => decide (c ∈ cs)
def figs (l : List Nat) : Bool := !decide (l = []) && allIn l FIG
def prn (l : List Nat) : Bool := l.all fun c => decide (32 ≤ c ∧ c ≤ 126 ∧ c ≠ 37)
theorem allIn_nil (cs : List Nat) : allIn [] cs = true := rfl
theorem figs_all {l : List Nat} (h : figs l = true) : l ≠ [] ∧ l.all (fun c => decide (48 ≤ c) && decide (c ≤ 57)) = true := by
  unfold figs at h
  rw [Bool.and_eq_true, Bool.not_eq_true', decide_eq_false_iff_not] at h
  refine ⟨h.1, List.all_eq_true.mpr fun c hc => ?_⟩
  have := List.all_eq_true.mp h.2 c hc
  have m : c ∈ FIG := of_decide_eq_true this
  have : c = 48 ∨ c = 49 ∨ c = 50 ∨ c = 51 ∨ c = 52 ∨ c = 53 ∨ c = 54 ∨ c = 55 ∨ c = 56 ∨ c = 57 := by simpa [FIG] using m
  rw [Bool.and_eq_true, decide_eq_true_eq, decide_eq_true_eq]
  omega
/-- some value of the law: a text, or something else -/
inductive Wd (K : PySem.W.Frag) (H : Hp) : V → Prop
  | str {l : List Nat} (hl : l.length ≤ 1000) (ok : ∀ c ∈ l, c < 128) : Wd K H (.str (S l))
  | non : Wd K H .non
  | int (i : Int) : Wd K H (.int i)
  | bl (b : Bool) : Wd K H (.bl b)
  | tup {p : Addr} {xs : List V} (h : SqT K H p xs) : Wd K H (.ref p)
  | lst {p : Addr} {xs : List V} (h : SqL K H p xs) : Wd K H (.ref p)
theorem Wd.sm {K : PySem.W.Frag} {H H' : Hp} {v : V} (e : WP.Sm H H') (h : Wd K H v) : Wd K H' v := by
  cases h with
  | str hl ok => exact .str hl ok
  | non => exact .non
  | int i => exact .int i
  | bl b => exact .bl b
  | tup h => exact .tup (e.tup h)
  | lst h => exact .lst (e.lst h)
def isS : V → Bool
  | .str _ => true
  | _ => false
theorem tyL {K : PySem.W.Frag} {H : Hp} {p : Addr} {xs : List V} (h : SqL K H p xs) : TyX K H (.ref p) (.type "list") := by
  rcases h with (h | ⟨o, h⟩) | h
  · exact .base (.lst h)
  · exact .base (.frz h)
  · obtain ⟨o, its, n, h1, h2, h3⟩ := h
    exact .kList h1 h2
/-- isinstance(v, str) -/
theorem Wd.isStr {K : PySem.W.Frag} {H : Hp} {v : V} {Q : VK} (h : Wd K H v) (q : Q (.bl (isS v)) H) : rIsi K [v, .ty "str"] H Q := by
  cases h with
  | str hl ok => exact WP.isY (.base (.str _)) q
  | non => exact WP.isN (.base .non) q
  | int i => exact WP.isN (.base (.int i)) q
  | bl b => exact WP.isN (.base (.bl b)) q
  | tup h => exact WP.isN (WP.tyT h) q
  | lst h => exact WP.isN (tyL h) q
/-- what is asked of a text, False of another value -/
def onS (f : List Nat → Bool) : V → Bool
  | .str z => f z.cps.toList
  | _ => false
theorem onS_S {f : List Nat → Bool} {l : List Nat} : onS f (.str (S l)) = f l := rfl
theorem Wd.cases {K : PySem.W.Frag} {H : Hp} {v : V} (h : Wd K H v) : (∃ l, v = .str (S l) ∧ l.length ≤ 1000 ∧ ∀ c ∈ l, c < 128) ∨ (isS v = false ∧ ∀ f, onS f v = false) := by
  cases h with
  | str hl ok => exact .inl ⟨_, rfl, hl, ok⟩
  | _ => exact .inr ⟨rfl, fun _ => rfl⟩
/-- the reserved words -/
def RES : List (List Nat) := [[112, 114, 111, 103, 114, 97, 109], [100, 97, 116, 97], [102, 105, 108, 101, 115], [112, 114, 111, 99, 101, 100, 117, 114, 101], [112, 105, 99, 116, 117, 114, 101], [111, 99, 99, 117, 114, 115], [118, 97, 108, 117, 101], [105, 110, 112, 117, 116], [111, 117, 116, 112, 117, 116], [114, 101, 99, 111, 114, 100], [109, 111, 118, 101], [116, 111], [115, 101, 116], [114, 111, 117, 110, 100, 101, 100], [101, 108, 115, 101], [101, 110, 100], [100, 105, 118, 105, 100, 101], [98, 121], [103, 105, 118, 105, 110, 103], [114, 101, 109, 97, 105, 110, 100, 101, 114], [105, 102], [116, 104, 101, 110], [112, 101, 114, 102, 111, 114, 109], [116, 104, 114, 117], [116, 105, 109, 101, 115], [117, 110, 116, 105, 108], [118, 97, 114, 121, 105, 110, 103], [102, 114, 111, 109], [114, 101, 97, 100], [97, 116], [98, 97, 100], [119, 114, 105, 116, 101], [115, 104, 111, 119], [115, 111, 114, 116], [100, 101, 115, 99, 101, 110, 100, 105, 110, 103], [99, 108, 101, 97, 114], [115, 116, 111, 112], [110, 111, 116], [97, 110, 100], [111, 114], [100, 105, 103, 105, 116, 115], [116, 101, 120, 116]]
def nameB (l : List Nat) : Bool :=
  decide (1 ≤ l.length ∧ l.length ≤ 20) && (!decide (l ∈ RES) && (decide (l.headD 0 ∈ LET) && (!decide ((l.getLast?).getD 0 = 45) && allIn l (LET ++ FIG ++ [45]))))
theorem ends {l : List Nat} (h : 1 ≤ l.length) : atI l (0 : Int) = some (l.headD 0) ∧ atI l (-1 : Int) = some ((l.getLast?).getD 0) := by
  cases l with
  | nil => exact absurd h (by decide)
  | cons c r =>
    refine ⟨WP.at0, ?_⟩
    have e : ixN (c :: r).length (-1) = some r.length := by
      unfold ixN
      rw [if_neg (by decide)]
      rw [List.length_cons]
      first | (rw [if_pos (by omega)]; congr 1; omega) | (simp; omega)
    unfold atI
    rw [e]
    show (c :: r)[r.length]? = _
    have e2 : (c :: r).getLast? = (c :: r)[(c :: r).length - 1]? := List.getLast?_eq_getElem?
    rw [show (c :: r).length - 1 = r.length from rfl] at e2
    rw [← e2]
    simp [List.getLast?_cons]
theorem cps_S (l : List Nat) : (S l).cps.toList = l := rfl
theorem prn_codes (l : List Nat) : ((l.map fun c => ((c : Nat) : Int)).all fun c => decide ((32 : Int) ≤ c ∧ c ≤ 126 ∧ c ≠ 37)) = prn l := by
  unfold prn
  rw [List.all_map]
  congr 1
  funext c
  show decide _ = decide _
  congr 1
  exact propext ⟨fun (h : (32 : Int) ≤ (c : Int) ∧ (c : Int) ≤ 126 ∧ (c : Int) ≠ 37) => by omega, fun h => show (32 : Int) ≤ (c : Int) ∧ (c : Int) ≤ 126 ∧ (c : Int) ≠ 37 by omega⟩
theorem prn_in (l : List Nat) : allIn l PRN = prn l := by
  unfold allIn prn
  congr 1
  funext c
  congr 1
  refine propext ⟨fun h => ?_, fun ⟨h1, h2, h3⟩ => ?_⟩
  · have : ∀ c ∈ PRN, 32 ≤ c ∧ c ≤ 126 ∧ c ≠ 37 := by decide
    exact this c h
  · have : ∀ c < 127, 32 ≤ c → c ≠ 37 → c ∈ PRN := by decide
    exact this c (by omega) h1 h3
/-- the reserved words as data -/
def resD : List PyData := RES.map fun a => PyData.str (S a)
theorem dpAll_S {K : PySem.W.Frag} {H : Hp} : ∀ ls : List (List Nat), DpAll K H (ls.map fun a => V.str (S a)) (ls.map fun a => PyData.str (S a))
  | [] => .nil
  | _ :: r => .cons (.str _) (dpAll_S r)
theorem dpRes {K : PySem.W.Frag} (H : Hp) : DpAll K H (RES.map fun a => V.str (S a)) resD := dpAll_S RES
theorem resSh : SeqAt.shaped (.list resD) = true := by decide +kernel
theorem resLay : (PyData.list resD).canLay0 = true := by decide +kernel
end MW

namespace MT
open PySem PySem.Spec PyProof.Rows L2 MW
open SX (S)
/-! ### a text cut at the first sign c -/
def cutW (c : Nat) (l : List Nat) : List Nat := l.takeWhile (· != c)
def cutR (c : Nat) (l : List Nat) : Option (List Nat) := match l.dropWhile (· != c) with
  | [] => none
  | _ :: r => some r
theorem dw_head {c : Nat} : ∀ {l : List Nat} {x : Nat} {r : List Nat}, l.dropWhile (· != c) = x :: r → x = c
  | [], _, _, h => by cases h
  | y :: l, x, r, h => by
    by_cases e : y = c
    · subst e
      rw [List.dropWhile_cons_of_neg (by simp)] at h
      cases h; rfl
    · rw [List.dropWhile_cons_of_pos (by simp [e])] at h
      exact dw_head h
theorem cutW_free (c : Nat) (l : List Nat) : c ∉ cutW c l := fun h => by
  have := List.all_eq_true.mp (List.all_takeWhile (l := l) (p := (· != c))) c h
  simp at this
theorem cut_none {c : Nat} {l : List Nat} (h : cutR c l = none) : cutW c l = l ∧ c ∉ l := by
  have e := List.takeWhile_append_dropWhile (p := (· != c)) (l := l)
  have hd : l.dropWhile (· != c) = [] := by
    unfold cutR at h
    split at h
    · rename_i z; exact z
    · cases h
  rw [hd, List.append_nil] at e
  have e : cutW c l = l := e
  exact ⟨e, by have := cutW_free c l; rw [e] at this; exact this⟩
theorem cut_some {c : Nat} {l r : List Nat} (h : cutR c l = some r) : l = cutW c l ++ c :: r := by
  have e := List.takeWhile_append_dropWhile (p := (· != c)) (l := l)
  unfold cutR at h
  split at h
  · cases h
  · rename_i x r' z
    cases h
    rw [z, dw_head z] at e
    exact e.symm
theorem cut_of {c : Nat} : ∀ {p q : List Nat}, c ∉ p → cutW c (p ++ c :: q) = p ∧ cutR c (p ++ c :: q) = some q
  | [], q, _ => by
    unfold cutW cutR
    simp
  | x :: p, q, h => by
    have hx : x ≠ c := fun e => h (by rw [e]; exact List.mem_cons_self ..)
    obtain ⟨h1, h2⟩ := cut_of (q := q) (c := c) (p := p) fun m => h (List.mem_cons_of_mem _ m)
    unfold cutW cutR at *
    rw [List.cons_append, List.takeWhile_cons_of_pos (by simp [hx]), List.dropWhile_cons_of_pos (by simp [hx])]
    exact ⟨by rw [h1], h2⟩
theorem cut_of_none {c : Nat} {p : List Nat} (h : c ∉ p) : cutW c p = p ∧ cutR c p = none := by
  cases e : cutR c p with
  | none => exact ⟨(cut_none e).1, rfl⟩
  | some r =>
    have := cut_some e
    exact absurd (by rw [this]; exact List.mem_append_right _ (List.mem_cons_self ..)) h
/-- partition -/
theorem part_S (c : Nat) (l : List Nat) : Txt.partition (S l) (S [c]) = (S (cutW c l), S (match cutR c l with | none => [] | some _ => [c]), S ((cutR c l).getD [])) := by
  cases h : cutR c l with
  | none =>
    obtain ⟨e, n⟩ := cut_none h
    rw [SX.partition_none (List.cons_ne_nil _ _) (SX.par_head_none n), e]
    rfl
  | some r =>
    have e := cut_some h
    have n := cutW_free c l
    have q : TL.par [c] [] l = some (cutW c l, r) := (congrArg (TL.par [c] []) e).trans (SX.par_head r n)
    rw [SX.partition_some (List.cons_ne_nil _ _) q]
    rfl
/-- split -/
theorem spl_none {c : Nat} {l : List Nat} (h : cutR c l = none) : TL.spl [c] 0 [] l = [l] := by
  have := (cut_none h).2
  have q := TL.spl_last1 (S := []) (acc := []) this
  exact q
theorem spl_some {c : Nat} {l r : List Nat} (h : cutR c l = some r) : TL.spl [c] 0 [] l = cutW c l :: TL.spl [c] 0 [] r := by
  have e := cut_some h
  have n := cutW_free c l
  have q := TL.spl_part1 (S := []) (acc := []) (rest := r) n
  have key : ∀ p, l = p ++ c :: r → TL.spl [c] 0 [] (p ++ c :: r) = p :: TL.spl [c] 0 [] r → TL.spl [c] 0 [] l = p :: TL.spl [c] 0 [] r := fun p e q => by rw [e]; exact q
  exact key _ e q
theorem spl_ne {c : Nat} (l : List Nat) : 1 ≤ (TL.spl [c] 0 [] l).length := by
  cases h : cutR c l with
  | none => rw [spl_none h]; exact Nat.le_refl 1
  | some r => rw [spl_some h]; simp
theorem spl_count {c : Nat} (n : Nat) : ∀ l : List Nat, l.length ≤ n → (TL.spl [c] 0 [] l).length ≤ l.length + 1 := by
  induction n with
  | zero =>
    intro l h
    have : l = [] := List.length_eq_zero_iff.mp (by omega)
    subst this
    rw [TL.spl_nil]
    exact Nat.le_refl _
  | succ n ih =>
    intro l h
    cases e : cutR c l with
    | none => rw [spl_none e]; simp
    | some r =>
      have e2 := congrArg List.length (cut_some e)
      rw [List.length_append, List.length_cons] at e2
      rw [spl_some e, List.length_cons]
      have := ih r (by omega)
      omega
theorem spl_flat {c : Nat} (n : Nat) : ∀ l : List Nat, l.length ≤ n → (TL.spl [c] 0 [] l).flatten.length ≤ l.length := by
  induction n with
  | zero =>
    intro l h
    have : l = [] := List.length_eq_zero_iff.mp (by omega)
    subst this
    rw [TL.spl_nil]
    exact Nat.le_refl _
  | succ n ih =>
    intro l h
    cases e : cutR c l with
    | none => rw [spl_none e]; simp
    | some r =>
      have e2 := congrArg List.length (cut_some e)
      rw [List.length_append, List.length_cons] at e2
      rw [spl_some e, List.flatten_cons, List.length_append]
      have := ih r (by omega)
      omega
/-! ### what a text spells -/
def whole (l : List Nat) : Bool := figs l && (decide (l = [48]) || !decide (l.headD 0 = 48))
def sgn (neg : Bool) (n : Nat) : Int := if neg then -(n : Int) else (n : Int)
def spellB (neg : Bool) (w : List Nat) : Option (List Nat) → Option (Int × Nat)
  | none => if whole w = true ∧ w.length ≤ 18 then some (sgn neg (NumText.digitsVal w), 0) else none
  | some f => if whole w = true ∧ figs f = true ∧ w.length + f.length ≤ 18 then some (MD.nrm (sgn neg (NumText.digitsVal (w ++ f))) f.length) else none
theorem spellB_none {neg : Bool} {w : List Nat} : spellB neg w none = if whole w = true ∧ w.length ≤ 18 then some (sgn neg (NumText.digitsVal w), 0) else none := rfl
theorem spellB_some {neg : Bool} {w f : List Nat} : spellB neg w (some f) = if whole w = true ∧ figs f = true ∧ w.length + f.length ≤ 18 then some (MD.nrm (sgn neg (NumText.digitsVal (w ++ f))) f.length) else none := rfl
def isNeg (l : List Nat) : Bool := decide (l.head? = some 45)
def bodyOf (l : List Nat) : List Nat := if isNeg l = true then l.drop 1 else l
def spell (l : List Nat) : Option (Int × Nat) := spellB (isNeg l) (cutW 46 (bodyOf l)) (cutR 46 (bodyOf l))
theorem spl_filter {c : Nat} (n : Nat) : ∀ l : List Nat, l.length ≤ n → (TL.spl [c] 0 [] l).flatten = l.filter (fun x => !decide (x = c)) := by
  have keep : ∀ w : List Nat, c ∉ w → w.filter (fun x => !decide (x = c)) = w := fun w h => List.filter_eq_self.mpr fun x hx => by
    have : x ≠ c := fun e => h (by rw [← e]; exact hx)
    simp [this]
  induction n with
  | zero =>
    intro l h
    have : l = [] := List.length_eq_zero_iff.mp (by omega)
    subst this
    rw [TL.spl_nil]
    rfl
  | succ n ih =>
    intro l h
    cases e : cutR c l with
    | none =>
      rw [spl_none e, keep l (cut_none e).2]
      simp
    | some r =>
      have e1 := cut_some e
      have e2 := congrArg List.length e1
      rw [List.length_append, List.length_cons] at e2
      rw [spl_some e, List.flatten_cons, ih r (by omega)]
      have k := keep _ (cutW_free c l)
      have e3 := congrArg (List.filter (fun x => !decide (x = c))) e1
      rw [List.filter_append, k] at e3
      rw [e3, List.filter_cons]
      simp
theorem joinL0 : ∀ l : List (List Nat), TL.joinL [] l = l.flatten
  | [] => rfl
  | [p] => by simp [TL.joinL]
  | p :: q :: r => by rw [TL.joinL, joinL0 (q :: r)]; simp
/-- text.replace(c, '') -/
theorem repl_S {c : Nat} (hc : c < 256) (l : List Nat) : Txt.replace (S l) (S [c]) (S []) = S (l.filter (fun x => !decide (x = c))) := by
  have h := StrLaws.replace_one (S l) (S []) c
  have e : (⟨#[c]⟩ : Str) = S [c] := rfl
  rw [e] at h
  rw [h, SX.split_S (List.cons_ne_nil _ _) (by simpa using hc), ← TL.join_eq, SX.join_S, joinL0, spl_filter l.length l (Nat.le_refl _)]
/-! ### figures -/
theorem all_figs {l : List Nat} (h : NumText.AllDigits l) (ne : l ≠ []) : figs l = true := by
  unfold figs
  rw [decide_eq_false ne]
  refine List.all_eq_true.mpr fun c hc => decide_eq_true ?_
  have := h c hc
  have : c = 48 ∨ c = 49 ∨ c = 50 ∨ c = 51 ∨ c = 52 ∨ c = 53 ∨ c = 54 ∨ c = 55 ∨ c = 56 ∨ c = 57 := by omega
  simpa [FIG] using this
theorem numL_hd (n : Nat) : n = 0 ∨ (TL.numL n).headD 0 ≠ 48 := by
  induction n using Nat.strongRecOn with
  | ind n ih =>
    by_cases h : n < 10
    · rw [TL.numL_lt h]
      show n = 0 ∨ 48 + n ≠ 48
      omega
    · rw [TL.numL_step (by omega)]
      rcases ih (n / 10) (by omega) with e | e
      · omega
      · refine .inr ?_
        have ne := TL.numL_ne (n / 10)
        cases hx : TL.numL (n / 10) with
        | nil => exact absurd hx ne
        | cons a r => rw [hx] at e; exact e
theorem digits_zero (k : Nat) (l : List Nat) : NumText.digitsVal (List.replicate k 48 ++ l) = NumText.digitsVal l := by
  induction k with
  | zero => rfl
  | succ k ih => rw [List.replicate_succ, List.cons_append]; exact ih
theorem digits_app : ∀ l, NumText.AllDigits l → ∀ c ∈ l, 48 ≤ c ∧ c ≤ 57 := fun l h c hc => h c hc
end MT
namespace MT
open PySem PySem.Spec PyProof.Rows L2 MW
open SX (S)
/-- the figures of a decimal, and its text (as the program's show makes it) -/
def dF (u : Int) (s : Nat) : List Nat := List.replicate (s + 1 - (TL.numL u.natAbs).length) 48 ++ TL.numL u.natAbs
def dT (u : Int) (s : Nat) : List Nat := (if u < 0 then [45] else []) ++ (if s = 0 then dF u s else (dF u s).take ((dF u s).length - s) ++ [46] ++ (dF u s).drop ((dF u s).length - s))
theorem dF_dig (u : Int) (s : Nat) : NumText.AllDigits (dF u s) := fun c hc => by
  rcases List.mem_append.mp hc with h | h
  · rw [List.eq_of_mem_replicate h]; decide
  · exact TL.numL_digits _ c h
theorem dF_len (u : Int) (s : Nat) : s + 1 ≤ (dF u s).length := by
  have := List.length_pos_iff.mpr (TL.numL_ne u.natAbs)
  unfold dF
  rw [List.length_append, List.length_replicate]
  omega
theorem dF_val (u : Int) (s : Nat) : NumText.digitsVal (dF u s) = u.natAbs := by
  unfold dF
  rw [digits_zero, TL.numL_val]
/-- the part ahead of the point -/
theorem dF_whole (u : Int) (s : Nat) : whole ((dF u s).take ((dF u s).length - s)) = true := by
  have hl := dF_len u s
  have hn := List.length_pos_iff.mpr (TL.numL_ne u.natAbs)
  have ne : (dF u s).take ((dF u s).length - s) ≠ [] := fun e => by
    have := congrArg List.length e
    rw [List.length_take, List.length_nil] at this
    omega
  have dg : NumText.AllDigits ((dF u s).take ((dF u s).length - s)) := fun c hc => dF_dig u s c (List.mem_of_mem_take hc)
  unfold whole
  rw [all_figs dg ne, Bool.true_and, Bool.or_eq_true]
  by_cases h : (TL.numL u.natAbs).length ≤ s
  · left
    have e : (dF u s).length - s = 1 := by
      unfold dF
      rw [List.length_append, List.length_replicate]; omega
    rw [e]
    unfold dF
    obtain ⟨k, hk⟩ : ∃ k, s + 1 - (TL.numL u.natAbs).length = k + 1 := ⟨s - (TL.numL u.natAbs).length, by omega⟩
    rw [hk, List.replicate_succ]
    rfl
  · have e : dF u s = TL.numL u.natAbs := by
      unfold dF
      rw [show s + 1 - (TL.numL u.natAbs).length = 0 by omega]
      rfl
    rw [e]
    rcases numL_hd u.natAbs with z | z
    · left
      rw [z] at h ⊢
      have e0 : TL.numL 0 = [48] := TL.numL_lt (by decide)
      rw [e0] at h ⊢
      have : s = 0 := by have : ¬ (1 ≤ s) := h; omega
      subst this
      rfl
    · right
      obtain ⟨k, hk⟩ : ∃ k, (TL.numL u.natAbs).length - s = k + 1 := ⟨(TL.numL u.natAbs).length - s - 1, by omega⟩
      rw [hk]
      cases hx : TL.numL u.natAbs with
      | nil => exact absurd hx (TL.numL_ne _)
      | cons a r =>
        rw [hx] at z
        have z' : a ≠ 48 := z
        rw [List.take_succ_cons]
        show (!decide (a = 48)) = true
        rw [decide_eq_false z']; rfl
theorem dig_no {l : List Nat} (h : NumText.AllDigits l) {c : Nat} (hc : c < 48) : c ∉ l := fun m => by have := h c m; omega
theorem dT_neg (u : Int) (s : Nat) : isNeg (dT u s) = decide (u < 0) := by
  unfold isNeg dT
  by_cases h : u < 0
  · rw [if_pos h, decide_eq_true h]; rfl
  · rw [if_neg h, decide_eq_false h, List.nil_append]
    refine decide_eq_false fun e => ?_
    have hl := dF_len u s
    have m : (45 : Nat) ∈ dF u s := by
      split at e
      · exact List.mem_of_head? e
      · rename_i h0
        rw [List.append_assoc, List.head?_append] at e
        cases hx : ((dF u s).take ((dF u s).length - s)).head? with
        | none =>
          have : (dF u s).take ((dF u s).length - s) = [] := List.head?_eq_none_iff.mp hx
          have := congrArg List.length this
          rw [List.length_take, List.length_nil] at this
          omega
        | some a =>
          rw [hx] at e
          cases e
          exact List.mem_of_mem_take (List.mem_of_head? hx)
    exact dig_no (dF_dig u s) (by decide) m
theorem dT_body (u : Int) (s : Nat) : bodyOf (dT u s) = if s = 0 then dF u s else (dF u s).take ((dF u s).length - s) ++ 46 :: (dF u s).drop ((dF u s).length - s) := by
  unfold bodyOf
  rw [dT_neg]
  have e : ∀ a b : List Nat, a ++ [46] ++ b = a ++ 46 :: b := fun a b => by rw [List.append_assoc]; rfl
  by_cases h : u < 0
  · rw [if_pos (decide_eq_true h)]
    unfold dT
    rw [if_pos h, e]
    rfl
  · rw [if_neg (by rw [decide_eq_false h]; exact Bool.false_ne_true)]
    unfold dT
    rw [if_neg h, e]
    rfl
/-- the read-back -/
theorem spell_dT {u : Int} {s : Nat} (hd : MD.Dec u s) (hl : (dF u s).length ≤ 18) : spell (dT u s) = some (u, s) := by
  have hs : sgn (decide (u < 0)) u.natAbs = u := by
    unfold sgn
    by_cases h : u < 0
    · rw [if_pos (decide_eq_true h)]; omega
    · rw [if_neg (by rw [decide_eq_false h]; exact Bool.false_ne_true)]; omega
  unfold spell
  rw [dT_neg, dT_body]
  by_cases h0 : s = 0
  · subst h0
    rw [if_pos rfl]
    obtain ⟨e1, e2⟩ := cut_of_none (dig_no (dF_dig u 0) (show 46 < 48 by decide))
    rw [e1, e2]
    have hw := dF_whole u 0
    rw [Nat.sub_zero, List.take_length] at hw
    rw [spellB_none, if_pos ⟨hw, hl⟩, dF_val, hs]
  · rw [if_neg h0]
    obtain ⟨e1, e2⟩ := cut_of (c := 46) (p := (dF u s).take ((dF u s).length - s)) (q := (dF u s).drop ((dF u s).length - s)) fun m => dig_no (dF_dig u s) (show 46 < 48 by decide) (List.mem_of_mem_take m)
    rw [e1, e2]
    have len := dF_len u s
    have hf : figs ((dF u s).drop ((dF u s).length - s)) = true := all_figs (fun c hc => dF_dig u s c (List.mem_of_mem_drop hc)) fun e => by
      have := congrArg List.length e
      rw [List.length_drop, List.length_nil] at this
      omega
    rw [spellB_some, if_pos ⟨dF_whole u s, hf, by rw [List.length_take, List.length_drop]; omega⟩, List.take_append_drop, dF_val, hs, List.length_drop, show (dF u s).length - ((dF u s).length - s) = s by omega, MD.nrm_self hd]
/-- the figures alone -/
theorem dT_figs (u : Int) (s : Nat) : (((dT u s).filter (fun x => !decide (x = 45))).filter (fun x => !decide (x = 46))).length = (dF u s).length := by
  have key : ∀ l : List Nat, NumText.AllDigits l → (l.filter (fun x => !decide (x = 45))).filter (fun x => !decide (x = 46)) = l := fun l h => by
    rw [List.filter_filter]
    refine List.filter_eq_self.mpr fun x hx => ?_
    have := h x hx
    simp; omega
  have kd := dF_dig u s
  have e : ((dT u s).filter (fun x => !decide (x = 45))).filter (fun x => !decide (x = 46)) = dF u s := by
    unfold dT
    rw [List.filter_append, List.filter_append]
    have e1 : (((if u < 0 then [45] else [] : List Nat)).filter (fun x => !decide (x = 45))).filter (fun x => !decide (x = 46)) = [] := by split <;> rfl
    rw [e1, List.nil_append]
    split
    · exact key _ kd
    · rw [List.filter_append, List.filter_append, List.filter_append, List.filter_append, key _ (fun c hc => kd c (List.mem_of_mem_take hc)), key _ (fun c hc => kd c (List.mem_of_mem_drop hc))]
      rw [show ([46] : List Nat).filter (fun x => !decide (x = 45)) = [46] from rfl, show ([46] : List Nat).filter (fun x => !decide (x = 46)) = [] from rfl, List.append_nil, List.take_append_drop]
  rw [e]
end MT
namespace MT
open PySem PySem.Spec PyProof.Rows L2 MW
open SX (S)
theorem starts_S {c : Nat} {l : List Nat} : Txt.startswith (S l) (S [c]) = decide (l.head? = some c) := by
  unfold Txt.startswith
  have h := StrLaws.subAt_one (S l) c 0
  have e : (S l).cps.toList[0]? = l.head? := by rw [List.head?_eq_getElem?]
  rw [e] at h
  rw [Bool.eq_iff_iff, Bool.and_eq_true, decide_eq_true_eq, decide_eq_true_eq]
  exact h
theorem spell_def (l : List Nat) : spell l = spellB (isNeg l) (cutW 46 (bodyOf l)) (cutR 46 (bodyOf l)) := rfl
theorem body_len (l : List Nat) : (bodyOf l).length ≤ l.length := by
  unfold bodyOf
  split
  · rw [List.length_drop]; omega
  · exact Nat.le_refl _
theorem body_mem {l : List Nat} {c : Nat} (h : c ∈ bodyOf l) : c ∈ l := by
  unfold bodyOf at h
  split at h
  · exact List.mem_of_mem_drop h
  · exact h
theorem cutW_mem {k : Nat} {l : List Nat} {c : Nat} (h : c ∈ cutW k l) : c ∈ l := (List.takeWhile_sublist _).subset h
theorem cutR_mem {k : Nat} {l r : List Nat} (e : cutR k l = some r) {c : Nat} (h : c ∈ r) : c ∈ l := by
  rw [cut_some e]
  exact List.mem_append_right _ (List.mem_cons_of_mem _ h)
theorem cutR_len {k : Nat} {l r : List Nat} (e : cutR k l = some r) : (cutW k l).length + 1 + r.length = l.length := by
  have := congrArg List.length (cut_some e)
  rw [List.length_append, List.length_cons] at this
  omega
/-- figures == text -/
theorem body_eq (l : List Nat) : decide (bodyOf l = l) = !isNeg l := by
  unfold bodyOf
  cases h : isNeg l with
  | true =>
    rw [if_pos rfl]
    refine decide_eq_false fun e => ?_
    have h := of_decide_eq_true h
    cases l with
    | nil => cases h
    | cons a r => have := congrArg List.length e; simp at this
  | false => rw [if_neg Bool.false_ne_true]; exact decide_eq_true rfl
end MT
namespace MT
open PySem PySem.Spec PyProof.Rows L2 MW
open SX (S)
/-- more than one point -/
theorem not_figs {f : List Nat} {c : Nat} (h : c ∈ f) (hc : c < 48) : figs f = false := by
  cases e : figs f with
  | false => rfl
  | true =>
    have := List.all_eq_true.mp (figs_all e).2 c h
    rw [Bool.and_eq_true, decide_eq_true_eq] at this
    omega
theorem cutR_in {c : Nat} {l r : List Nat} (e : cutR c l = some r) : c ∈ l := by
  rw [cut_some e]
  exact List.mem_append_right _ (List.mem_cons_self ..)
theorem spl_len2 {c : Nat} (l : List Nat) : (TL.spl [c] 0 [] l).length = 1 ↔ cutR c l = none := by
  cases h : cutR c l with
  | none => rw [spl_none h]; simp
  | some r =>
    rw [spl_some h]
    have := spl_ne (c := c) r
    simp only [List.length_cons]
    exact ⟨fun e => by omega, fun e => by cases e⟩
/-- the law's reader, by the parts -/
def readP (neg : Bool) (ps : List (List Nat)) : Option (Int × Nat) :=
  if ps.length > 2 ∨ ps.flatten.length > 18 then none else
  if ps.all figs = false then none else
  if (ps.headD []).length > 1 ∧ (ps.headD []).headD 0 = 48 then none else
  some (MD.nrm (sgn neg (NumText.digitsVal ps.flatten)) (if ps.length = 2 then (ps.getD 1 []).length else 0))
theorem whole_iff (w : List Nat) : whole w = (figs w && !decide (w.length > 1 ∧ w.headD 0 = 48)) := by
  unfold whole
  cases hf : figs w with
  | false => rfl
  | true =>
    rw [Bool.true_and, Bool.true_and]
    have hne := (figs_all hf).1
    cases w with
    | nil => exact absurd rfl hne
    | cons a r =>
      cases r with
      | nil =>
        show (decide ([a] = [48]) || !decide (a = 48)) = !decide ((1 : Nat) > 1 ∧ a = 48)
        by_cases h : a = 48
        · subst h; rfl
        · rw [decide_eq_false (show ¬ [a] = [48] from fun e => h (by simpa using e)), decide_eq_false h, decide_eq_false (fun z => h z.2)]; rfl
      | cons b r =>
        show (decide (a :: b :: r = [48]) || !decide (a = 48)) = !decide ((a :: b :: r).length > 1 ∧ a = 48)
        rw [decide_eq_false (show ¬ a :: b :: r = [48] from fun e => by simp at e), Bool.false_or]
        congr 1
        congr 1
        exact propext ⟨fun h => ⟨by simp, h⟩, fun h => h.2⟩
theorem read_spell (neg : Bool) (b : List Nat) : spellB neg (cutW 46 b) (cutR 46 b) = readP neg (TL.spl [46] 0 [] b) := by
  cases h : cutR 46 b with
  | none =>
    rw [spl_none h, (cut_none h).1, spellB_none]
    unfold readP
    have e1 : [b].flatten = b := by simp
    have e2 : [b].all figs = figs b := by simp
    rw [e1, e2]
    show _ = if ((1 : Nat) > 2 ∨ b.length > 18) then none else _
    by_cases hl : b.length > 18
    · rw [if_neg (fun z => by have := z.2; omega), if_pos (.inr hl)]
    · rw [if_neg (show ¬ ((1 : Nat) > 2 ∨ b.length > 18) from fun z => z.elim (fun z => by omega) hl)]
      rw [whole_iff]
      cases hf : figs b with
      | false => rw [if_neg (fun z => by cases z.1), if_pos rfl]
      | true =>
        rw [if_neg (show ¬ (true = false) by simp)]
        show _ = if b.length > 1 ∧ b.headD 0 = 48 then none else some (MD.nrm (sgn neg (NumText.digitsVal b)) 0)
        by_cases hz : b.length > 1 ∧ b.headD 0 = 48
        · rw [if_neg (fun z => by rw [decide_eq_true hz] at z; cases z.1), if_pos hz]
        · rw [if_neg hz, if_pos ⟨by rw [decide_eq_false hz]; rfl, by omega⟩]
          rfl
  | some f =>
    rw [spl_some h, spellB_some]
    cases h2 : cutR 46 f with
    | some g =>
      rw [spl_some h2]
      have hn := not_figs (cutR_in h2) (by decide)
      rw [if_neg (fun z => by rw [hn] at z; cases z.2.1)]
      unfold readP
      rw [if_pos (.inl (by have := spl_ne (c := 46) g; simp only [List.length_cons]; omega))]
    | none =>
      rw [spl_none h2]
      unfold readP
      have e1 : [cutW 46 b, f].flatten = cutW 46 b ++ f := by simp
      have e2 : [cutW 46 b, f].all figs = (figs (cutW 46 b) && figs f) := by simp
      rw [e1, e2]
      show _ = if ((2 : Nat) > 2 ∨ (cutW 46 b ++ f).length > 18) then none else _
      generalize cutW 46 b = w
      rw [List.length_append]
      by_cases hl : w.length + f.length > 18
      · rw [if_neg (fun z => by have := z.2; omega), if_pos (.inr hl)]
      · rw [if_neg (show ¬ ((2 : Nat) > 2 ∨ w.length + f.length > 18) from fun z => z.elim (fun z => by omega) hl), whole_iff]
        cases hf : figs f with
        | false => rw [if_neg (fun z => by cases z.2.1), if_pos (by simp)]
        | true =>
          cases hw : figs w with
          | false => rw [if_neg (fun z => by cases z.1), if_pos (show (false && true) = false from rfl)]
          | true =>
            rw [if_neg (show ¬ ((true && true) = false) by simp)]
            show _ = if w.length > 1 ∧ w.headD 0 = 48 then none else some (MD.nrm (sgn neg (NumText.digitsVal (w ++ f))) f.length)
            by_cases hz : w.length > 1 ∧ w.headD 0 = 48
            · rw [if_neg (fun z => by rw [decide_eq_true hz] at z; cases z.1), if_pos hz]
            · rw [if_neg hz, if_pos ⟨by rw [decide_eq_false hz]; rfl, rfl, by omega⟩]
end MT
namespace MT
open PySem PySem.Spec PyProof.Rows L2 MW
open SX (S)
theorem repl_dash (l : List Nat) : Txt.replace (S l) ("-" : Str) ("" : Str) = S (l.filter (fun x => !decide (x = 45))) := by
  have e1 : ("-" : Str) = S [45] := by decide +kernel
  have e2 : ("" : Str) = S [] := by decide +kernel
  rw [e1, e2]; exact repl_S (by decide) l
theorem repl_dot (l : List Nat) : Txt.replace (S l) ("." : Str) ("" : Str) = S (l.filter (fun x => !decide (x = 46))) := by
  have e1 : ("." : Str) = S [46] := by decide +kernel
  have e2 : ("" : Str) = S [] := by decide +kernel
  rw [e1, e2]; exact repl_S (by decide) l
theorem empty_len : ("" : Str).length = 0 := by decide +kernel
theorem dF_le {u : Int} {s : Nat} (hu : u.natAbs ≤ 10 ^ 18) (hs : s ≤ 18) : (dF u s).length ≤ 19 := by
  have := TL.numL_len (k := 19) (by decide) (show u.natAbs < 10 ^ 19 from Nat.lt_of_le_of_lt hu (by decide))
  unfold dF
  rw [List.length_append, List.length_replicate]
  omega
theorem dT_ok {u : Int} {s : Nat} (hu : u.natAbs ≤ 10 ^ 18) (hs : s ≤ 18) : (dT u s).length ≤ 21 ∧ ∀ c ∈ dT u s, c < 128 := by
  have hl := dF_le hu hs
  have kd := dF_dig u s
  have kd' : ∀ c ∈ dF u s, c < 128 := fun c h => by have := kd c h; omega
  unfold dT
  constructor
  · rw [List.length_append]
    have e1 : (if u < 0 then [45] else [] : List Nat).length ≤ 1 := by split <;> decide
    have e2 : (if s = 0 then dF u s else (dF u s).take ((dF u s).length - s) ++ [46] ++ (dF u s).drop ((dF u s).length - s) : List Nat).length ≤ 20 := by
      split
      · omega
      · rw [List.length_append, List.length_append, List.length_take, List.length_drop]
        show _ + 1 + _ ≤ _
        omega
    omega
  · intro c hc
    rcases List.mem_append.mp hc with h | h
    · split at h
      · rw [List.mem_singleton.mp h]; decide
      · cases h
    · split at h
      · exact kd' c h
      · rcases List.mem_append.mp h with h | h
        · rcases List.mem_append.mp h with h | h
          · exact kd' c (List.mem_of_mem_take h)
          · rw [List.mem_singleton.mp h]; decide
        · exact kd' c (List.mem_of_mem_drop h)
end MT

namespace MR
open PySem PySem.Spec PyProof.Rows L2 MW MT
open SX (S)
/-! ### text.find(c, at) -/
theorem occ_full (s sub : Str) (hi : Nat) : ∀ (l : List Nat) (st : Array Nat × Nat), 1 ≤ st.fst.size → (forIn l st (StrLaws.occBody s sub hi 1)).run.fst = st.fst
  | [], st, _ => rfl
  | a :: l, st, h => by
    rw [List.forIn_cons]
    unfold StrLaws.occBody
    rw [if_neg (fun z => by have := z.1.1.1; omega)]
    exact occ_full s sub hi l _ h
theorem occ_first (s sub : Str) (hi : Nat) : ∀ (l : List Nat) (free : Nat), (∀ i ∈ l, free ≤ i) →
    (forIn l ((#[] : Array Nat), free) (StrLaws.occBody s sub hi 1)).run.fst.toList = (match l.find? (fun i => decide (i + sub.length ≤ hi ∧ Builtin.Str.subAt s sub i = true)) with | none => [] | some i => [i])
  | [], free, _ => rfl
  | a :: l, free, hf => by
    rw [List.forIn_cons]
    have ha : free ≤ a := hf a (List.mem_cons_self ..)
    by_cases hc : a + sub.length ≤ hi ∧ Builtin.Str.subAt s sub a = true
    · rw [List.find?_cons_of_pos (by simpa using hc)]
      unfold StrLaws.occBody
      rw [if_pos ⟨⟨⟨by simp, ha⟩, hc.1⟩, hc.2⟩]
      have := occ_full s sub hi l ((#[] : Array Nat).push a, a + sub.length) (by simp)
      show (forIn l ((#[] : Array Nat).push a, a + sub.length) (StrLaws.occBody s sub hi 1)).run.fst.toList = [a]
      rw [this]
      rfl
    · rw [List.find?_cons_of_neg (by simpa using hc)]
      unfold StrLaws.occBody
      rw [if_neg (fun h => hc ⟨h.1.2, h.2⟩)]
      exact occ_first s sub hi l free (fun i hi' => hf i (List.mem_cons_of_mem _ hi'))
theorem cut_consEq {c : Nat} {r : List Nat} : cutW c (c :: r) = [] ∧ cutR c (c :: r) = some r := cut_of (p := []) (fun h => by cases h)
theorem cut_consNe {c x : Nat} {r : List Nat} (h : x ≠ c) : cutW c (x :: r) = x :: cutW c r ∧ cutR c (x :: r) = cutR c r := by
  unfold cutW cutR
  rw [List.takeWhile_cons_of_pos (by simp [h]), List.dropWhile_cons_of_pos (by simp [h])]
  exact ⟨rfl, rfl⟩
theorem find_drop (c : Nat) (l : List Nat) : ∀ n lo, lo + n = l.length + 1 → (List.range' lo n).find? (fun i => decide (l[i]? = some c)) = (match cutR c (l.drop lo) with | none => none | some _ => some (lo + (cutW c (l.drop lo)).length))
  | 0, lo, h => by
    rw [List.drop_eq_nil_of_le (by omega)]
    rfl
  | n + 1, lo, h => by
    rw [List.range'_succ]
    by_cases hl : lo < l.length
    · rw [List.drop_eq_getElem_cons hl]
      by_cases hx : l[lo] = c
      · rw [List.find?_cons_of_pos (by rw [List.getElem?_eq_getElem hl, hx]; simp), hx, cut_consEq.1, cut_consEq.2]
        rfl
      · rw [List.find?_cons_of_neg (by rw [List.getElem?_eq_getElem hl]; simp [hx]), (cut_consNe hx).1, (cut_consNe hx).2, find_drop c l n (lo + 1) (by omega)]
        cases cutR c (l.drop (lo + 1)) with
        | none => rfl
        | some r => show some _ = some _; rw [List.length_cons]; congr 1; omega
    · rw [List.find?_cons_of_neg (by rw [List.getElem?_eq_none (by omega)]; simp), find_drop c l n (lo + 1) (by omega), List.drop_eq_nil_of_le (by omega), List.drop_eq_nil_of_le (by omega)]
      rfl
theorem find_S (c : Nat) (l : List Nat) (at0 : Nat) (h : at0 ≤ l.length) : Txt.find3 (S l) (S [c]) (at0 : Int) = (match cutR c (l.drop at0) with | none => -1 | some _ => ((at0 + (cutW c (l.drop at0)).length : Nat) : Int)) := by
  unfold Txt.find3
  have e0 : fromIndex (S l).length (at0 : Int) = at0 := by
    unfold fromIndex
    rw [if_neg (by omega)]
    omega
  rw [e0, StrLaws.occ_eq, occ_first _ _ _ _ _ (fun i hi => by have := List.mem_range'.mp hi; obtain ⟨k, _, e⟩ := this; omega)]
  have e1 : (fun i => decide (i + (S [c]).length ≤ (S l).length ∧ Builtin.Str.subAt (S l) (S [c]) i = true)) = (fun i => decide (l[i]? = some c)) := by
    funext i
    congr 1
    exact propext (StrLaws.subAt_one (S l) c i)
  rw [e1, SX.S_len, find_drop c l _ at0 (by omega)]
  cases cutR c (l.drop at0) with
  | none => rfl
  | some r => rfl
/-! ### lstrip of one sign -/
theorem dw_eq {c : Nat} : ∀ l : List Nat, (∃ k, l = List.replicate k c ++ l.dropWhile (· == c)) 
  | [] => ⟨0, rfl⟩
  | x :: l => by
    by_cases h : x = c
    · subst h
      obtain ⟨k, e⟩ := dw_eq (c := x) l
      refine ⟨k + 1, ?_⟩
      rw [List.dropWhile_cons_of_pos (by simp), List.replicate_succ, List.cons_append, ← e]
    · exact ⟨0, by rw [List.dropWhile_cons_of_neg (by simp [h])]; rfl⟩
/-! ### the spread row -/
def okC (w : List Nat) : Bool := figs w && (decide (w.length ≤ 2) && !decide (w.headD 0 = 48))
def cnt (r : List Nat) : Option (Nat × Nat) :=
  if r.head? = some 40 then
    match cutR 41 (r.drop 1) with
    | none => none
    | some _ => if okC (cutW 41 (r.drop 1)) = true then some (NumText.digitsVal (cutW 41 (r.drop 1)), (cutW 41 (r.drop 1)).length + 2) else none
  else some (1, 0)
def spr : Nat → List Nat → Option (List Nat)
  | 0, l => if l = [] then some [] else none
  | _ + 1, [] => some []
  | n + 1, m :: r => match cnt r with
    | none => none
    | some (c, k) => (spr n (r.drop k)).map (List.replicate c m ++ ·)
theorem spr_nil (n : Nat) : spr n [] = some [] := by cases n <;> rfl
theorem spr_fuel : ∀ (n m : Nat) (l : List Nat), l.length ≤ n → l.length ≤ m → spr n l = spr m l
  | _, _, [], _, _ => by rw [spr_nil, spr_nil]
  | 0, _, _ :: _, h, _ => absurd h (by simp)
  | _, 0, _ :: _, _, h => absurd h (by simp)
  | n + 1, m + 1, x :: r, hn, hm => by
    show (match cnt r with | none => none | some (c, k) => (spr n (r.drop k)).map (List.replicate c x ++ ·)) = (match cnt r with | none => none | some (c, k) => (spr m (r.drop k)).map (List.replicate c x ++ ·))
    cases cnt r with
    | none => rfl
    | some ck =>
      obtain ⟨c, k⟩ := ck
      show (spr n (r.drop k)).map _ = (spr m (r.drop k)).map _
      rw [spr_fuel n m (r.drop k) (by rw [List.length_drop]; simp at hn; omega) (by rw [List.length_drop]; simp at hm; omega)]
def spread (l : List Nat) : Option (List Nat) := spr l.length l
theorem spread_nil : spread [] = some [] := rfl
theorem spread_cons (x : Nat) (r : List Nat) : spread (x :: r) = match cnt r with
    | none => none
    | some (c, k) => (spread (r.drop k)).map (List.replicate c x ++ ·) := by
  show (match cnt r with | none => none | some (c, k) => (spr r.length (r.drop k)).map (List.replicate c x ++ ·)) = _
  cases cnt r with
  | none => rfl
  | some ck =>
    obtain ⟨c, k⟩ := ck
    show (spr r.length (r.drop k)).map _ = (spr (r.drop k).length (r.drop k)).map _
    rw [spr_fuel r.length (r.drop k).length (r.drop k) (by rw [List.length_drop]; omega) (Nat.le_refl _)]
theorem digits2 {w : List Nat} (h : okC w = true) : NumText.digitsVal w ≤ 99 := by
  unfold okC at h
  rw [Bool.and_eq_true, Bool.and_eq_true, decide_eq_true_eq] at h
  have hf := (figs_all h.1).2
  match w, h.2.1, hf with
  | [], _, _ => decide
  | [a], _, hf =>
    have := List.all_eq_true.mp hf a (by simp)
    rw [Bool.and_eq_true, decide_eq_true_eq, decide_eq_true_eq] at this
    show 0 * 10 + (a - 48) ≤ 99
    omega
  | [a, b], _, hf =>
    have h1 := List.all_eq_true.mp hf a (by simp)
    have h2 := List.all_eq_true.mp hf b (by simp)
    rw [Bool.and_eq_true, decide_eq_true_eq, decide_eq_true_eq] at h1 h2
    show (0 * 10 + (a - 48)) * 10 + (b - 48) ≤ 99
    omega
theorem cnt_le {r : List Nat} {c k : Nat} (h : cnt r = some (c, k)) : c ≤ 99 ∧ k ≤ r.length := by
  unfold cnt at h
  split at h
  · rename_i h40
    cases e : cutR 41 (r.drop 1) with
    | none => rw [e] at h; cases h
    | some q =>
      rw [e] at h
      by_cases ho : okC (cutW 41 (r.drop 1)) = true
      · rw [show (match some q with | none => none | some _ => if okC (cutW 41 (r.drop 1)) = true then some (NumText.digitsVal (cutW 41 (r.drop 1)), (cutW 41 (r.drop 1)).length + 2) else none) = some (NumText.digitsVal (cutW 41 (r.drop 1)), (cutW 41 (r.drop 1)).length + 2) from if_pos ho] at h
        cases h
        refine ⟨digits2 ho, ?_⟩
        have := cutR_len e
        rw [List.length_drop] at this
        omega
      · rw [show (match some q with | none => none | some _ => if okC (cutW 41 (r.drop 1)) = true then some (NumText.digitsVal (cutW 41 (r.drop 1)), (cutW 41 (r.drop 1)).length + 2) else none) = none from if_neg ho] at h
        cases h
  · cases h
    exact ⟨by decide, Nat.zero_le _⟩
theorem spread_len : ∀ (n : Nat) (l row : List Nat), l.length ≤ n → spread l = some row → row.length ≤ 99 * l.length
  | _, [], row, _, h => by rw [spread_nil] at h; cases h; exact Nat.zero_le _
  | 0, x :: r, _, hn, _ => absurd hn (by simp)
  | n + 1, x :: r, row, hn, h => by
    rw [spread_cons] at h
    cases e : cnt r with
    | none => rw [e] at h; cases h
    | some ck =>
      obtain ⟨c, k⟩ := ck
      rw [e] at h
      have h : (spread (r.drop k)).map (List.replicate c x ++ ·) = some row := h
      cases e2 : spread (r.drop k) with
      | none => rw [e2] at h; cases h
      | some q =>
        rw [e2] at h
        cases h
        have h1 := spread_len n (r.drop k) q (by rw [List.length_drop]; simp at hn; omega) e2
        have h2 := (cnt_le e).1
        rw [List.length_drop] at h1
        rw [List.length_append, List.length_replicate, List.length_cons]
        have : 99 * (r.length - k) ≤ 99 * r.length := Nat.mul_le_mul_left _ (by omega)
        omega
end MR
namespace MR
open PySem PySem.Spec PyProof.Rows L2 MW MT
open SX (S)
/-! ### the program's reading, written out -/
def allM (c : Nat) (l : List Nat) : Bool := l.all (fun x => decide (x = c))
theorem rep_iff {c : Nat} {l : List Nat} : decide (l = List.replicate l.length c) = allM c l := by
  unfold allM
  rw [Bool.eq_iff_iff, decide_eq_true_eq, List.all_eq_true]
  constructor
  · intro h x hx
    rw [h] at hx
    exact decide_eq_true (List.eq_of_mem_replicate hx)
  · intro h
    exact List.eq_replicate_of_mem fun x hx => of_decide_eq_true (h x hx)
def numP (l : List Nat) : Option MP.Pic :=
  let sg := decide (l.head? = some 115)
  let b := if sg = true then l.drop 1 else l
  if cutR 118 b = some [] then none else
  if allM 57 (cutW 118 b ++ (cutR 118 b).getD []) = true ∧ 1 ≤ (cutW 118 b ++ (cutR 118 b).getD []).length ∧ (cutW 118 b ++ (cutR 118 b).getD []).length ≤ 18
  then some (.num sg (cutW 118 b).length ((cutR 118 b).getD []).length) else none
def INS : List Nat := [44, 98, 48, 47]
def dig (a : List Nat) : List Nat := a.filter (fun x => !decide (x ∈ INS))
def wh (d : List Nat) : List Nat := if d.head? = some 122 then d.dropWhile (· == 122) else d.dropWhile (· == 42)
def edP (m sign : List Nat) : Option MP.Pic :=
  let A := cutW 46 m
  let B := (cutR 46 m).getD []
  if ¬ (m.take 1 ∈ [[122], [42], [57]]) ∨ allM 57 (wh (dig A)) = false then none else
  if allM 57 B = false ∨ cutR 46 m = some [] then none else
  if (dig A).length + B.length > 18 then none else
  if sign = [] ∧ allM 57 m = true then none else
  some (.ed m (dig A).length B.length sign)
def last1 (l : List Nat) : Nat := (l.getLast?).getD 0
def partP (l : List Nat) : List Nat × List Nat :=
  if l.headD 0 = 45 ∨ l.headD 0 = 43 then (l.drop 1, [l.headD 0])
  else if last1 l = 45 ∨ last1 l = 43 then (l.take (l.length - 1), [46, last1 l])
  else if l.drop (l.length - 2) = [99, 114] ∨ l.drop (l.length - 2) = [100, 98] then (l.take (l.length - 2), l.drop (l.length - 2))
  else (l, [])
inductive Res where
  | txt (n : Nat)
  | pic (p : MP.Pic)
def Res.vs : Res → List V
  | .txt n => [.str (S [116, 101, 120, 116]), .int (n : Int)]
  | .pic p => p.vs
/-- of the spread row -/
def rowP (row : List Nat) : Option Res :=
  if 1 ≤ row.length ∧ row.length ≤ 80 then
    if allM 120 row = true then some (.txt row.length) else
    match numP row with
    | some p => some (.pic p)
    | none => (edP (partP row).1 (partP row).2).map .pic
  else none
def readPic (l : List Nat) : Option Res := match spread l with
  | none => none
  | some row => rowP row
/-- a picture or none comes back -/
def RetO (o : Option MP.Pic) (H : Hp) (Q : VK) : Prop := (o = none → WP.RetV .non H Q) ∧ ∀ p, o = some p → WP.RetT p.vs H Q
theorem drop_tw {p : Nat → Bool} (l : List Nat) : l.drop (l.takeWhile p).length = l.dropWhile p := by
  have e := List.takeWhile_append_dropWhile (p := p) (l := l)
  have : (l.takeWhile p ++ l.dropWhile p).drop (l.takeWhile p).length = l.dropWhile p := List.drop_left
  rw [e] at this
  exact this
theorem lstrip_S {c : Nat} {l : List Nat} : Txt.lstripChars (S l) (S [c]) = S (l.dropWhile (· == c)) := by
  unfold Txt.lstripChars
  rw [PyProof.Rows.stripBy_eq]
  have e1 : stripLo (S [c]).cps.contains true (S l) = (l.takeWhile (· == c)).length := by
    unfold stripLo
    rw [if_pos rfl]
    congr 2
    funext x
    show #[c].contains x = (x == c)
    rw [Array.contains_eq_mem]
    by_cases h : x = c
    · subst h; simp
    · rw [beq_eq_false_iff_ne.mpr h]; simp [h]
  have e2 : stripHi (S [c]).cps.contains false (S l) (stripLo (S [c]).cps.contains true (S l)) = l.length := by
    unfold stripHi
    rw [if_neg Bool.false_ne_true, SX.S_len]
  rw [e2, e1, PyProof.Rows.strSub_mk]
  show S ((l.drop _).take (l.length - _)) = _
  rw [List.take_of_length_le (by rw [List.length_drop]; omega), drop_tw]
end MR
namespace MR
open PySem PySem.Spec PyProof.Rows L2 MW MT
open SX (S)
def lawOut (l : List Nat) : List Nat := match spread l with
  | none => []
  | some row => if row.length ≤ 80 then row else []
theorem slice_m2 {l : List Nat} (h : 1 ≤ l.length) : Txt.slice (S l) (some (-2)) none = S (l.drop (l.length - 2)) := by
  by_cases h2 : 2 ≤ l.length
  · have := WP.slice_fromN (l := l) (i := -2) (by decide) (by omega)
    rw [this, show (-2 + (l.length : Int)).toNat = l.length - 2 by omega]
  · have hl : l.length = 1 := by omega
    have e : Txt.slice (S l) (some (-2)) none = Txt.slice (S l) (some 0) none := by
      unfold Txt.slice
      rw [SX.S_len, hl]
      rfl
    rw [e, SX.slice_from (by decide), hl]
    rfl
theorem m2 {l : List Nat} {H : Hp} {Q : VK} (h : 1 ≤ l.length) (hl : l.length ≤ sizeLine) (q : Q (.str (S (l.drop (l.length - 2)))) H) : rSlS (.str (S l)) (some (-2)) none H Q := WP.slS _ (by rw [SX.S_len]; exact hl) (by rw [slice_m2 h]; exact q)
theorem cnt_40 {q : List Nat} : cnt (40 :: q) = match cutR 41 q with
    | none => none
    | some _ => if okC (cutW 41 q) = true then some (NumText.digitsVal (cutW 41 q), (cutW 41 q).length + 2) else none := by
  unfold cnt
  rw [if_pos (show (40 :: q).head? = some 40 from rfl)]
  rfl
theorem cnt_no {r : List Nat} (h : r.head? ≠ some 40) : cnt r = some (1, 0) := by
  unfold cnt
  rw [if_neg h]
theorem RetO.none' {H H' : Hp} {Q : VK} {o : Option MP.Pic} (k : RetO o H Q) (e : Same H H') (h : o = none) : Q .non H' := k.1 h H' e
theorem RetO.some' {H H' : Hp} {Q : VK} {o : Option MP.Pic} {p : MP.Pic} (k : RetO o H Q) (e : Same H H') (h : o = some p) : ∀ t, H' t = none → Q (.ref t) (upd H' t (.tup p.vs)) := (k.2 p h).new e
end MR
namespace MR
theorem wh_len (d : List Nat) : (wh d).length ≤ d.length := by
  unfold wh
  split <;> exact (List.dropWhile_sublist _).length_le
theorem partP_len (l : List Nat) : (partP l).1.length ≤ l.length := by
  unfold partP
  split
  · show (l.drop 1).length ≤ _; rw [List.length_drop]; omega
  · split
    · show (l.take _).length ≤ _; rw [List.length_take]; omega
    · split
      · show (l.take _).length ≤ _; rw [List.length_take]; omega
      · exact Nat.le_refl _
end MR

namespace MR
open PySem PySem.Spec PyProof.Rows L2 MW MT
open SX (S)
/-! ### the law's count -/
def fg (c : Nat) : Bool := decide (c ∈ FIG)
def dn (q : List Nat) : Nat := min 3 (q.takeWhile fg).length
def lcnt (q : List Nat) : Option (Nat × Nat) :=
  if q.take (dn q) = [] ∨ (q.take (dn q)).length > 2 ∨ (q.take (dn q)).headD 0 = 48 ∨ (q.drop (dn q)).take 1 ≠ [41] then none else some (NumText.digitsVal (q.take (dn q)), (q.take (dn q)).length + 2)
theorem fg_no {c : Nat} (h : c < 48) : fg c = false := by
  unfold fg
  refine decide_eq_false fun m => ?_
  have : c = 48 ∨ c = 49 ∨ c = 50 ∨ c = 51 ∨ c = 52 ∨ c = 53 ∨ c = 54 ∨ c = 55 ∨ c = 56 ∨ c = 57 := by simpa [FIG] using m
  omega
theorem tw_app {w r : List Nat} (hw : ∀ c ∈ w, fg c = true) (hr : r.head?.all (fun c => !fg c) = true) : (w ++ r).takeWhile fg = w := by
  induction w with
  | nil =>
    cases r with
    | nil => rfl
    | cons a r =>
      have : fg a = false := by simpa using hr
      rw [List.nil_append, List.takeWhile_cons_of_neg (by rw [this]; exact Bool.false_ne_true)]
  | cons a w ih =>
    rw [List.cons_append, List.takeWhile_cons_of_pos (hw a (.head _)), ih fun c hc => hw c (.tail _ hc)]
theorem lcnt_eq (q : List Nat) : cnt (40 :: q) = lcnt q := by
  rw [cnt_40]
  have tw := List.takeWhile_append_dropWhile (p := fg) (l := q)
  have htw : ∀ c ∈ q.takeWhile fg, fg c = true := fun c hc => List.all_eq_true.mp List.all_takeWhile c hc
  by_cases hbad : q.take (dn q) = [] ∨ (q.take (dn q)).length > 2 ∨ (q.take (dn q)).headD 0 = 48 ∨ (q.drop (dn q)).take 1 ≠ [41]
  · have e : lcnt q = none := if_pos hbad
    rw [e]
    cases hc : cutR 41 q with
    | none => rfl
    | some rest =>
      show (if okC (cutW 41 q) = true then _ else none) = none
      refine if_neg fun ho => ?_
      have hq := cut_some hc
      unfold okC at ho
      rw [Bool.and_eq_true, Bool.and_eq_true, decide_eq_true_eq, Bool.not_eq_true', decide_eq_false_iff_not] at ho
      obtain ⟨hf, h2, h48⟩ := ho
      generalize cutW 41 q = w at hq hf h2 h48
      have hne := (figs_all hf).1
      have hwf : ∀ c ∈ w, fg c = true := fun c hcw => by
        unfold figs at hf
        rw [Bool.and_eq_true] at hf
        exact List.all_eq_true.mp hf.2 c hcw
      have etw : q.takeWhile fg = w := by
        rw [hq]
        exact tw_app hwf (by simp [fg_no (show 41 < 48 by decide)])
      have ed : dn q = w.length := by unfold dn; rw [etw]; omega
      rw [ed] at hbad
      have et : q.take w.length = w := by rw [hq]; exact List.take_left
      have edr : q.drop w.length = 41 :: rest := by rw [hq]; exact List.drop_left
      rw [et, edr] at hbad
      rcases hbad with h | h | h | h
      · exact hne h
      · omega
      · exact h48 h
      · exact h rfl
  · have hg : ¬ q.take (dn q) = [] ∧ ¬ (q.take (dn q)).length > 2 ∧ ¬ (q.take (dn q)).headD 0 = 48 ∧ (q.drop (dn q)).take 1 = [41] := by
      refine ⟨fun h => hbad (.inl h), fun h => hbad (.inr (.inl h)), fun h => hbad (.inr (.inr (.inl h))), ?_⟩
      exact Classical.byContradiction fun h => hbad (.inr (.inr (.inr h)))
    have e : lcnt q = some (NumText.digitsVal (q.take (dn q)), (q.take (dn q)).length + 2) := if_neg hbad
    rw [e]
    obtain ⟨g1, g2, g3, g4⟩ := hg
    obtain ⟨rest, hr⟩ : ∃ rest, q.drop (dn q) = 41 :: rest := by
      cases hx : q.drop (dn q) with
      | nil => rw [hx] at g4; simp at g4
      | cons a r => rw [hx] at g4; simp at g4; exact ⟨r, by rw [g4]⟩
    have hq : q = q.take (dn q) ++ 41 :: rest := by rw [← hr, List.take_append_drop]
    have hwf : ∀ c ∈ q.take (dn q), fg c = true := fun c hc => by
      have hpre : q.take (dn q) = (q.takeWhile fg).take (dn q) := by
        have hle : dn q ≤ (q.takeWhile fg).length := Nat.min_le_right _ _
        have h3 : (q.takeWhile fg ++ q.dropWhile fg).take (dn q) = (q.takeWhile fg).take (dn q) := List.take_append_of_le_length hle
        rw [tw] at h3
        exact h3
      rw [hpre] at hc
      exact htw c (List.mem_of_mem_take hc)
    generalize q.take (dn q) = w at *
    have n41 : 41 ∉ w := fun m => by have := hwf 41 m; rw [fg_no (by decide)] at this; cases this
    obtain ⟨c1, c2⟩ := cut_of (q := rest) n41
    rw [← hq] at c1 c2
    rw [c2, c1]
    show (if okC w = true then _ else none) = _
    rw [if_pos]
    unfold okC figs
    rw [decide_eq_false g1, show allIn w FIG = true from List.all_eq_true.mpr fun c hc => hwf c hc, decide_eq_true (show w.length ≤ 2 by omega), decide_eq_false g3]
    rfl
/-! ### the law's number -/
def lnum (sg : Bool) (ps : List (List Nat)) : Option MP.Pic :=
  if ps.length > 2 ∨ allIn ps.flatten [57] = false ∨ (ps.getLast?).getD [] = [] then none else
  if (ps.headD []).length + (if ps.length = 2 then (ps.getD 1 []).length else 0) ≤ 18 then some (.num sg (ps.headD []).length (if ps.length = 2 then (ps.getD 1 []).length else 0)) else none
theorem allM_in {c : Nat} {l : List Nat} : allIn l [c] = allM c l := by
  unfold allIn allM
  congr 1
  funext x
  congr 1
  simp
theorem numB (l : List Nat) : numP l = (let b := if decide (l.head? = some 115) = true then l.drop 1 else l; if cutR 118 b = some [] then none else
  if allM 57 (cutW 118 b ++ (cutR 118 b).getD []) = true ∧ 1 ≤ (cutW 118 b ++ (cutR 118 b).getD []).length ∧ (cutW 118 b ++ (cutR 118 b).getD []).length ≤ 18
  then some (.num (decide (l.head? = some 115)) (cutW 118 b).length ((cutR 118 b).getD []).length) else none) := rfl
theorem lnum_eq (sg : Bool) (b : List Nat) : (if cutR 118 b = some [] then none else
  if allM 57 (cutW 118 b ++ (cutR 118 b).getD []) = true ∧ 1 ≤ (cutW 118 b ++ (cutR 118 b).getD []).length ∧ (cutW 118 b ++ (cutR 118 b).getD []).length ≤ 18
  then some (MP.Pic.num sg (cutW 118 b).length ((cutR 118 b).getD []).length) else none) = lnum sg (TL.spl [118] 0 [] b) := by
  cases h : cutR 118 b with
  | none =>
    rw [spl_none h, (cut_none h).1, if_neg (by simp)]
    unfold lnum
    have e1 : [b].flatten = b := by simp
    rw [e1, allM_in]
    show _ = if ((1 : Nat) > 2 ∨ allM 57 b = false ∨ b = []) then none else if b.length + 0 ≤ 18 then some (MP.Pic.num sg b.length 0) else none
    rw [Option.getD_none, List.append_nil]
    by_cases hb : b = []
    · subst hb
      rw [if_neg (fun z => by have := z.2.1; simp at this), if_pos (.inr (.inr rfl))]
    · have hp := List.length_pos_iff.mpr hb
      cases ha : allM 57 b with
      | false => rw [if_neg (fun z => by cases z.1), if_pos (.inr (.inl rfl))]
      | true =>
        rw [if_neg (show ¬ ((1 : Nat) > 2 ∨ true = false ∨ b = []) from fun z => z.elim (fun z => by omega) (fun z => z.elim (fun z => by cases z) hb))]
        by_cases h18 : b.length ≤ 18
        · rw [if_pos ⟨rfl, hp, h18⟩, if_pos (by omega)]; rfl
        · rw [if_neg (fun z => h18 z.2.2), if_neg (by omega)]
  | some f =>
    rw [spl_some h]
    cases h2 : cutR 118 f with
    | some g =>
      have hin := cutR_in h2
      have hna : allM 57 (cutW 118 b ++ f) = false := by
        cases ha : allM 57 (cutW 118 b ++ f) with
        | false => rfl
        | true =>
          have := List.all_eq_true.mp ha 118 (List.mem_append_right _ hin)
          simp at this
      have hg : ¬ (some f = some ([] : List Nat)) := fun z => by
        have : f = [] := by simpa using z
        rw [this] at hin; cases hin
      rw [if_neg hg, Option.getD_some, if_neg (fun z => by rw [hna] at z; cases z.1)]
      unfold lnum
      rw [spl_some h2, if_pos (.inl (by have := spl_ne (c := 118) g; simp only [List.length_cons]; omega))]
    | none =>
      rw [spl_none h2]
      unfold lnum
      have e1 : [cutW 118 b, f].flatten = cutW 118 b ++ f := by simp
      rw [e1, allM_in, Option.getD_some]
      generalize cutW 118 b = w
      show _ = if ((2 : Nat) > 2 ∨ allM 57 (w ++ f) = false ∨ f = []) then none else if w.length + f.length ≤ 18 then some (MP.Pic.num sg w.length f.length) else none
      by_cases hf : f = []
      · subst hf
        rw [if_pos rfl, if_pos (.inr (.inr rfl))]
      · have hp := List.length_pos_iff.mpr hf
        rw [if_neg (show ¬ (some f = some ([] : List Nat)) from fun z => hf (by simpa using z))]
        cases ha : allM 57 (w ++ f) with
        | false => rw [if_neg (fun z => by cases z.1), if_pos (.inr (.inl rfl))]
        | true =>
          rw [if_neg (show ¬ ((2 : Nat) > 2 ∨ true = false ∨ f = []) from fun z => z.elim (fun z => by omega) (fun z => z.elim (fun z => by cases z) hf))]
          by_cases h18 : w.length + f.length ≤ 18
          · rw [if_pos ⟨rfl, by rw [List.length_append]; omega, by rw [List.length_append]; omega⟩, if_pos h18]
          · rw [if_neg (fun z => h18 (by have := z.2.2; rw [List.length_append] at this; exact this)), if_neg h18]
end MR
namespace MR
open PySem PySem.Spec PyProof.Rows L2 MW MT
open SX (S)
/-! ### the law's edited pictures -/
def Z3 : List Nat := [122, 42, 57]
def Z7 : List Nat := [122, 42, 57, 44, 98, 48, 47]
def mk3 (a : List Nat) : List Nat := a.filter (fun x => decide (x ∈ Z3))
def hidn (m : List Nat) : Nat := (m.filter (fun x => !decide (x = 57))).length
theorem z3_iff (c : Nat) : c ∈ Z3 ↔ c = 122 ∨ c = 42 ∨ c = 57 := by simp [Z3]
theorem ins_iff (c : Nat) : c ∈ INS ↔ c = 44 ∨ c = 98 ∨ c = 48 ∨ c = 47 := by simp [INS]
theorem z7_iff (c : Nat) : c ∈ Z7 ↔ c ∈ Z3 ∨ c ∈ INS := by rw [z3_iff, ins_iff]; simp [Z7, or_assoc]
theorem dw9 {c : Nat} (hc : c ≠ 57) {n : List Nat} (h : allM 57 n = true) : n.dropWhile (· == c) = n := by
  cases n with
  | nil => rfl
  | cons a r =>
    have : a = 57 := of_decide_eq_true (List.all_eq_true.mp h a (.head _))
    rw [List.dropWhile_cons_of_neg (by rw [this]; simp; omega)]
theorem dw_rep {c : Nat} (hc : c ≠ 57) {n : List Nat} (h : allM 57 n = true) : ∀ k, (List.replicate k c ++ n).dropWhile (· == c) = n
  | 0 => dw9 hc h
  | k + 1 => by rw [List.replicate_succ, List.cons_append, List.dropWhile_cons_of_pos (by simp), dw_rep hc h k]
theorem wh_shape {d : List Nat} (h : allM 57 (wh d) = true) : ∃ x k n, (x = 122 ∨ x = 42) ∧ d = List.replicate k x ++ n ∧ allM 57 n = true := by
  unfold wh at h
  split at h
  · obtain ⟨k, e⟩ := dw_eq (c := 122) d
    exact ⟨122, k, _, .inl rfl, e, h⟩
  · obtain ⟨k, e⟩ := dw_eq (c := 42) d
    exact ⟨42, k, _, .inr rfl, e, h⟩
theorem hid_shape {x k : Nat} {n : List Nat} (hx : x = 122 ∨ x = 42) (hn : allM 57 n = true) : hidn (List.replicate k x ++ n) = k := by
  unfold hidn
  rw [List.filter_append]
  have e1 : (List.replicate k x).filter (fun y => !decide (y = 57)) = List.replicate k x := List.filter_eq_self.mpr fun y hy => by
    rw [List.eq_of_mem_replicate hy]; rcases hx with rfl | rfl <;> rfl
  have e2 : n.filter (fun y => !decide (y = 57)) = [] := List.filter_eq_nil_iff.mpr fun y hy => by
    have := List.all_eq_true.mp hn y hy
    rw [this]; simp
  rw [e1, e2, List.append_nil, List.length_replicate]
/-- the two ways to look at the marks ahead of the point -/
def lawOk (A : List Nat) : Prop := allIn A Z7 = true ∧ (mk3 A).take (hidn (mk3 A)) = List.replicate (hidn (mk3 A)) ((mk3 A).headD 0) ∧ allM 57 ((mk3 A).drop (hidn (mk3 A))) = true
theorem dig_mk {A : List Nat} (h : allIn A Z7 = true) : dig A = mk3 A := by
  unfold dig mk3
  refine List.filter_congr fun x hx => ?_
  have hz := of_decide_eq_true (List.all_eq_true.mp h x hx)
  rw [z7_iff] at hz
  by_cases h1 : x ∈ Z3
  · rw [decide_eq_true h1, decide_eq_false (fun h2 => by rw [z3_iff] at h1; rw [ins_iff] at h2; omega)]; rfl
  · rw [decide_eq_false h1, decide_eq_true (hz.elim (fun z => absurd z h1) id)]; rfl
theorem ok_iff (A : List Nat) : (allM 57 (wh (dig A)) = true → lawOk A) ∧ (lawOk A → allM 57 (wh (dig A)) = true) := by
  constructor
  · intro h
    obtain ⟨x, k, n, hx, e, hn⟩ := wh_shape h
    have hd3 : ∀ a ∈ dig A, a ∈ Z3 := fun a ha => by
      rw [e] at ha
      rw [z3_iff]
      rcases List.mem_append.mp ha with z | z
      · rw [List.eq_of_mem_replicate z]; omega
      · have := of_decide_eq_true (List.all_eq_true.mp hn a z); omega
    have h7 : allIn A Z7 = true := List.all_eq_true.mpr fun a ha => decide_eq_true (by
      rw [z7_iff]
      by_cases hi : a ∈ INS
      · exact .inr hi
      · exact .inl (hd3 a (List.mem_filter.mpr ⟨ha, by rw [decide_eq_false hi]; rfl⟩)))
    have em := dig_mk h7
    rw [em] at e
    refine ⟨h7, ?_, ?_⟩
    · rw [e, hid_shape hx hn]
      rw [show (List.replicate k x ++ n).take k = List.replicate k x from by rw [List.take_append_of_le_length (by rw [List.length_replicate]; exact Nat.le_refl _), List.take_of_length_le (by rw [List.length_replicate]; exact Nat.le_refl _)]]
      cases k with
      | zero => rfl
      | succ k => rfl
    · rw [e, hid_shape hx hn]
      rw [List.drop_append_of_le_length (by rw [List.length_replicate]; exact Nat.le_refl _), List.drop_of_length_le (by rw [List.length_replicate]; exact Nat.le_refl _)]
      exact hn
  · rintro ⟨h7, h1, h2⟩
    rw [dig_mk h7]
    have h3 : ∀ a ∈ mk3 A, a ∈ Z3 := fun a ha => of_decide_eq_true (List.mem_filter.mp ha).2
    generalize hM : mk3 A = M at *
    have e : M = List.replicate (hidn M) (M.headD 0) ++ M.drop (hidn M) := by
      rw [← h1, List.take_append_drop]
    generalize hn : M.drop (hidn M) = n at *
    by_cases hH : hidn M = 0
    · rw [hH, List.replicate_zero, List.nil_append] at e
      unfold wh
      rw [e]
      split
      · rw [dw9 (by decide) h2]; exact h2
      · rw [dw9 (by decide) h2]; exact h2
    · obtain ⟨j, hj⟩ : ∃ j, hidn M = j + 1 := ⟨hidn M - 1, by omega⟩
      have hne : M ≠ [] := fun z => by rw [z] at hH; exact hH rfl
      obtain ⟨x, r, hxr⟩ : ∃ x r, M = x :: r := by
        cases M with
        | nil => exact absurd rfl hne
        | cons x r => exact ⟨x, r, rfl⟩
      have hx0 : M.headD 0 = x := by rw [hxr]; rfl
      rw [hx0] at e
      have hx3 := h3 x (by rw [hxr]; exact .head _)
      rw [z3_iff] at hx3
      have hx9 : x ≠ 57 := fun z => hH (by
        unfold hidn
        rw [List.filter_eq_nil_iff.mpr, List.length_nil]
        intro y hy
        rw [e] at hy
        have : y = 57 := by
          rcases List.mem_append.mp hy with q | q
          · rw [List.eq_of_mem_replicate q, z]
          · exact of_decide_eq_true (List.all_eq_true.mp h2 y q)
        rw [this]; simp)
      have hd : M.head? = some x := by rw [hxr]; rfl
      unfold wh
      rw [hd]
      rcases hx3 with rfl | rfl | rfl
      · rw [if_pos rfl, e, dw_rep (by decide) h2]; exact h2
      · rw [if_neg (by decide), e, dw_rep (by decide) h2]; exact h2
      · exact absurd rfl hx9
def ledB (m sign : List Nat) : Option MP.Pic :=
  let ps := TL.spl [46] 0 [] m
  if m = [] ∨ ¬ (m.headD 0 ∈ Z3) ∨ ps.length > 2 ∨ (ps.length = 2 ∧ ps.getD 1 [] = []) then none else
  if ps.length = 2 ∧ allIn (ps.getD 1 []) [57] = false then none else
  if allIn (ps.headD []) Z7 = false then none else
  if (mk3 (ps.headD [])).take (hidn (mk3 (ps.headD []))) ≠ List.replicate (hidn (mk3 (ps.headD []))) ((mk3 (ps.headD [])).headD 0) ∨ allIn ((mk3 (ps.headD [])).drop (hidn (mk3 (ps.headD [])))) [57] = false then none else
  if (mk3 (ps.headD [])).length + (if ps.length = 2 then (ps.getD 1 []).length else 0) ≤ 18 then some (.ed m (mk3 (ps.headD [])).length (if ps.length = 2 then (ps.getD 1 []).length else 0) sign) else none
theorem take1 (m : List Nat) : (m.take 1 ∈ [[122], [42], [57]]) ↔ (m ≠ [] ∧ m.headD 0 ∈ Z3) := by
  cases m with
  | nil => simp
  | cons a r => rw [z3_iff]; simp
theorem edP_def (m sign : List Nat) : edP m sign = (if ¬ (m.take 1 ∈ [[122], [42], [57]]) ∨ allM 57 (wh (dig (cutW 46 m))) = false then none else
  if allM 57 ((cutR 46 m).getD []) = false ∨ cutR 46 m = some [] then none else
  if (dig (cutW 46 m)).length + ((cutR 46 m).getD []).length > 18 then none else
  if sign = [] ∧ allM 57 m = true then none else
  some (.ed m (dig (cutW 46 m)).length ((cutR 46 m).getD []).length sign)) := rfl
theorem not_true {b : Bool} (h : ¬ b = true) : b = false := by cases b <;> simp_all
/-- the law reads the marks as the program does -/
theorem led_eq (m sign : List Nat) (h9 : sign = [] → allM 57 m = true → m.length > 18 ∨ m = []) : ledB m sign = edP m sign := by
  rw [edP_def]
  have hok := ok_iff (cutW 46 m)
  by_cases hm : m.take 1 ∈ [[122], [42], [57]]
  rotate_left
  · rw [if_pos (.inl hm)]
    have : m = [] ∨ ¬ (m.headD 0 ∈ Z3) := by
      by_cases e : m = []
      · exact .inl e
      · exact .inr fun z => hm ((take1 m).mpr ⟨e, z⟩)
    unfold ledB
    exact if_pos (this.elim .inl fun z => .inr (.inl z))
  obtain ⟨hne, hz3⟩ := (take1 m).mp hm
  unfold ledB
  cases h : cutR 46 m with
  | none =>
    rw [spl_none h, (cut_none h).1] at *
    show (if m = [] ∨ ¬ (m.headD 0 ∈ Z3) ∨ (1 : Nat) > 2 ∨ ((1 : Nat) = 2 ∧ _) then none else if (1 : Nat) = 2 ∧ _ then none else if allIn m Z7 = false then none else if (mk3 m).take (hidn (mk3 m)) ≠ List.replicate (hidn (mk3 m)) ((mk3 m).headD 0) ∨ allIn ((mk3 m).drop (hidn (mk3 m))) [57] = false then none else if (mk3 m).length + 0 ≤ 18 then some (MP.Pic.ed m (mk3 m).length 0 sign) else none) = _
    rw [if_neg (fun z => z.elim hne fun z => z.elim (fun z => z hz3) fun z => z.elim (fun z => by omega) fun z => by omega), if_neg (fun z => by omega), Option.getD_none]
    by_cases ho : allM 57 (wh (dig m)) = true
    · obtain ⟨o1, o2, o3⟩ := hok.1 ho
      rw [if_neg (show ¬ allIn m Z7 = false by rw [o1]; simp), if_neg (fun z => z.elim (fun z => z o2) (fun z => by rw [allM_in, o3] at z; cases z))]
      rw [if_neg (show ¬ (¬ (m.take 1 ∈ [[122], [42], [57]]) ∨ allM 57 (wh (dig m)) = false) from fun z => z.elim (fun z => z hm) (fun z => by rw [ho] at z; cases z)), if_neg (show ¬ (allM 57 [] = false ∨ (none : Option (List Nat)) = some []) by simp [allM]), dig_mk o1]
      by_cases h18 : (mk3 m).length ≤ 18
      · rw [if_pos (by omega), if_neg (show ¬ ((mk3 m).length + ([] : List Nat).length > 18) by simp; omega), if_neg]
        · rfl
        · rintro ⟨z1, z2⟩
          have := h9 z1 z2
          have e : mk3 m = m := List.filter_eq_self.mpr fun x hx => by
            have := of_decide_eq_true (List.all_eq_true.mp z2 x hx)
            rw [this]; rfl
          rw [e] at h18
          rcases this with q | q
          · omega
          · exact hne q
      · rw [if_neg (by omega), if_pos (show (mk3 m).length + ([] : List Nat).length > 18 by simp; omega)]
    · rw [if_pos (show (¬ (m.take 1 ∈ [[122], [42], [57]]) ∨ allM 57 (wh (dig m)) = false) from .inr (not_true ho))]
      by_cases o1 : allIn m Z7 = true
      · rw [if_neg (show ¬ allIn m Z7 = false by rw [o1]; simp)]
        refine if_pos ?_
        by_cases o2 : (mk3 m).take (hidn (mk3 m)) = List.replicate (hidn (mk3 m)) ((mk3 m).headD 0)
        · refine .inr ?_
          rw [allM_in]
          exact not_true fun o3 => ho (hok.2 ⟨o1, o2, o3⟩)
        · exact .inl o2
      · exact if_pos (not_true o1)
  | some f =>
    rw [spl_some h]
    cases h2 : cutR 46 f with
    | some g =>
      rw [spl_some h2]
      have hb : allM 57 f = false := not_true fun z => by
        have := List.all_eq_true.mp z 46 (cutR_in h2)
        simp at this
      have e1 := spl_ne (c := 46) g
      rw [Option.getD_some]
      refine Eq.trans (if_pos (.inr (.inr (.inl (by simp only [List.length_cons]; omega))))) ?_
      by_cases ho : ¬ (m.take 1 ∈ [[122], [42], [57]]) ∨ allM 57 (wh (dig (cutW 46 m))) = false
      · rw [if_pos ho]
      · rw [if_neg ho, if_pos (.inl hb)]
    | none =>
      rw [spl_none h2, Option.getD_some]
      generalize cutW 46 m = w at *
      show (if m = [] ∨ ¬ (m.headD 0 ∈ Z3) ∨ (2 : Nat) > 2 ∨ ((2 : Nat) = 2 ∧ f = []) then none else if (2 : Nat) = 2 ∧ allIn f [57] = false then none else if allIn w Z7 = false then none else if (mk3 w).take (hidn (mk3 w)) ≠ List.replicate (hidn (mk3 w)) ((mk3 w).headD 0) ∨ allIn ((mk3 w).drop (hidn (mk3 w))) [57] = false then none else if (mk3 w).length + f.length ≤ 18 then some (MP.Pic.ed m (mk3 w).length f.length sign) else none) = _
      by_cases hf : f = []
      · subst hf
        rw [if_pos (.inr (.inr (.inr ⟨rfl, rfl⟩)))]
        by_cases ho : ¬ (m.take 1 ∈ [[122], [42], [57]]) ∨ allM 57 (wh (dig w)) = false
        · rw [if_pos ho]
        · rw [if_neg ho, if_pos (.inr rfl)]
      · rw [if_neg (fun z => z.elim hne fun z => z.elim (fun z => z hz3) fun z => z.elim (fun z => by omega) fun z => hf z.2), allM_in]
        by_cases hfa : allM 57 f = true
        · rw [if_neg (show ¬ ((2 : Nat) = 2 ∧ allM 57 f = false) from fun z => by rw [hfa] at z; cases z.2)]
          by_cases ho : allM 57 (wh (dig w)) = true
          · obtain ⟨o1, o2, o3⟩ := hok.1 ho
            rw [if_neg (show ¬ allIn w Z7 = false by rw [o1]; simp), if_neg (fun z => z.elim (fun z => z o2) (fun z => by rw [allM_in, o3] at z; cases z))]
            rw [if_neg (show ¬ (¬ (m.take 1 ∈ [[122], [42], [57]]) ∨ allM 57 (wh (dig w)) = false) from fun z => z.elim (fun z => z hm) (fun z => by rw [ho] at z; cases z)), if_neg (show ¬ (allM 57 f = false ∨ some f = some []) from fun z => z.elim (fun z => by rw [hfa] at z; cases z) (fun z => hf (by simpa using z))), dig_mk o1]
            by_cases h18 : (mk3 w).length + f.length ≤ 18
            · rw [if_pos h18, if_neg (show ¬ ((mk3 w).length + f.length > 18) by omega), if_neg]
              rintro ⟨z1, z2⟩
              have := List.all_eq_true.mp z2 46 (cutR_in h)
              simp at this
            · rw [if_neg h18, if_pos (show (mk3 w).length + f.length > 18 by omega)]
          · rw [if_pos (show (¬ (m.take 1 ∈ [[122], [42], [57]]) ∨ allM 57 (wh (dig w)) = false) from .inr (not_true ho))]
            by_cases o1 : allIn w Z7 = true
            · rw [if_neg (show ¬ allIn w Z7 = false by rw [o1]; simp)]
              refine if_pos ?_
              by_cases o2 : (mk3 w).take (hidn (mk3 w)) = List.replicate (hidn (mk3 w)) ((mk3 w).headD 0)
              · refine .inr ?_
                rw [allM_in]
                exact not_true fun o3 => ho (hok.2 ⟨o1, o2, o3⟩)
              · exact .inl o2
            · exact if_pos (not_true o1)
        · rw [if_pos ⟨rfl, not_true hfa⟩]
          by_cases ho : ¬ (m.take 1 ∈ [[122], [42], [57]]) ∨ allM 57 (wh (dig w)) = false
          · rw [if_pos ho]
          · rw [if_neg ho, if_pos (.inl (not_true hfa))]
end MR
namespace MR
open PySem PySem.Spec PyProof.Rows L2 MW MT
open SX (S)
theorem lawOut_len (l : List Nat) : (lawOut l).length ≤ 80 := by
  unfold lawOut
  cases spread l with
  | none => exact Nat.zero_le _
  | some row =>
    show (if row.length ≤ 80 then row else []).length ≤ 80
    by_cases h : row.length ≤ 80
    · rw [if_pos h]; exact h
    · rw [if_neg h]; exact Nat.zero_le _
theorem readPic_out (l : List Nat) : readPic l = if lawOut l = [] then none else rowP (lawOut l) := by
  unfold readPic lawOut
  cases spread l with
  | none => rfl
  | some row =>
    show rowP row = if (if row.length ≤ 80 then row else []) = [] then none else rowP (if row.length ≤ 80 then row else [])
    by_cases h : row.length ≤ 80
    · rw [if_pos h]
      by_cases h2 : row = []
      · rw [if_pos h2, h2]; rfl
      · rw [if_neg h2]
    · rw [if_neg h, if_pos rfl]
      unfold rowP
      rw [if_neg (fun z => h z.2)]
end MR
namespace MR
open PySem PySem.Spec PyProof.Rows L2 MW MT
open SX (S)
theorem at_Sn {ps : List (List Nat)} {i : Nat} {w : List Nat} (h : ps[i]? = some w) : atI (ps.map fun a => V.str (S a)) (i : Int) = some (.str (S w)) := atI_nat (by rw [List.getElem?_map, h]; rfl)
theorem last_S {ps : List (List Nat)} (h : 1 ≤ ps.length) : atI (ps.map fun a => V.str (S a)) (-1 : Int) = some (.str (S ((ps.getLast?).getD []))) := by
  cases ps with
  | nil => exact absurd h (by decide)
  | cons c r =>
    have e : ixN (((c :: r).map fun a => V.str (S a))).length (-1) = some r.length := by
      unfold ixN
      rw [if_neg (by decide)]
      rw [List.length_map, List.length_cons]
      first | (rw [if_pos (by omega)]; congr 1; omega) | (simp; omega)
    unfold atI
    rw [e]
    show ((c :: r).map fun a => V.str (S a))[r.length]? = _
    have e2 : (c :: r).getLast? = (c :: r)[(c :: r).length - 1]? := List.getLast?_eq_getElem?
    rw [show (c :: r).length - 1 = r.length from rfl] at e2
    rw [List.getElem?_map, ← e2]
    simp [List.getLast?_cons]
end MR
namespace MR
open PySem PySem.Spec PyProof.Rows L2 MW MT
open SX (S)
theorem bad_none {m sg : List Nat} {x : Nat} (hx : x ∈ m) (h : x ≠ 46) (h7 : ¬ x ∈ Z7) : edP m sg = none := by
  rw [edP_def]
  by_cases ho : allM 57 (wh (dig (cutW 46 m))) = true
  rotate_left
  · exact if_pos (.inr (not_true ho))
  have hA := ((ok_iff _).1 ho).1
  have hxA : ¬ x ∈ cutW 46 m := fun z => h7 (of_decide_eq_true (List.all_eq_true.mp hA x z))
  by_cases h1 : ¬ (m.take 1 ∈ [[122], [42], [57]]) ∨ allM 57 (wh (dig (cutW 46 m))) = false
  · exact if_pos h1
  rw [if_neg h1]
  refine if_pos (.inl ?_)
  cases e : cutR 46 m with
  | none => exact absurd (by rw [(cut_none e).1]; exact hx) hxA
  | some r =>
    have hm := cut_some e
    have : x ∈ cutW 46 m ++ 46 :: r := by rw [← hm]; exact hx
    rcases List.mem_append.mp this with z | z
    · exact absurd z hxA
    · rcases List.mem_cons.mp z with z | z
      · exact absurd z h
      · refine not_true fun q => h7 ?_
        have q := of_decide_eq_true (List.all_eq_true.mp q x z)
        rw [q]; decide
theorem ledB_bad {m sg : List Nat} (h : m = [] ∨ ¬ (m.headD 0 ∈ Z3)) : ledB m sg = none := by
  unfold ledB
  exact if_pos (h.elim .inl fun z => .inr (.inl z))
def isL2 (l : List Nat) : Prop := l.drop (l.length - 2) = [99, 114] ∨ l.drop (l.length - 2) = [100, 98]
instance (l : List Nat) : Decidable (isL2 l) := by unfold isL2; infer_instance
def lpart (l : List Nat) : List Nat × List Nat :=
  if isL2 l then (l.take (l.length - 2), l.drop (l.length - 2))
  else if l.headD 0 = 45 ∨ l.headD 0 = 43 then (l.drop 1, [l.headD 0])
  else if last1 l = 45 ∨ last1 l = 43 then (l.take (l.length - 1), [46, last1 l])
  else (l, [])
theorem two_shape {l : List Nat} (h : isL2 l) : ∃ q a b, l = q ++ [a, b] ∧ (a = 99 ∨ a = 100) ∧ (b = 114 ∨ b = 98) ∧ l.take (l.length - 2) = q ∧ l.drop (l.length - 2) = [a, b] := by
  have e := (List.take_append_drop (l.length - 2) l).symm
  rcases h with h | h
  · rw [h] at e
    exact ⟨_, 99, 114, e, .inl rfl, .inl rfl, rfl, h⟩
  · rw [h] at e
    exact ⟨_, 100, 98, e, .inr rfl, .inr rfl, rfl, h⟩
theorem num_nines {l : List Nat} (h : numP l = none) (ha : allM 57 l = true) : l.length > 18 ∨ l = [] := by
  by_cases hl : l = []
  · exact .inr hl
  refine .inl ?_
  refine Classical.byContradiction fun h18 => ?_
  have hp := List.length_pos_iff.mpr hl
  have n57 : ∀ x ∈ l, x = 57 := fun x hx => of_decide_eq_true (List.all_eq_true.mp ha x hx)
  have e : l.head? ≠ some 115 := fun z => by
    have := n57 115 (List.mem_of_head? z)
    cases this
  have ec : cutR 118 l = none := by
    cases e2 : cutR 118 l with
    | none => rfl
    | some r => exact absurd (n57 118 (cutR_in e2)) (by decide)
  rw [numB, decide_eq_false e] at h
  have h : (if cutR 118 l = some [] then none else
    if allM 57 (cutW 118 l ++ (cutR 118 l).getD []) = true ∧ 1 ≤ (cutW 118 l ++ (cutR 118 l).getD []).length ∧ (cutW 118 l ++ (cutR 118 l).getD []).length ≤ 18
    then some (MP.Pic.num false (cutW 118 l).length ((cutR 118 l).getD []).length) else none) = none := h
  rw [ec, if_neg (by simp), (cut_none ec).1, Option.getD_none, List.append_nil, if_pos ⟨ha, hp, by omega⟩] at h
  cases h
theorem part_eq (l : List Nat) (h1 : 1 ≤ l.length) (hn : numP l = none) : ledB (lpart l).1 (lpart l).2 = edP (partP l).1 (partP l).2 := by
  by_cases h2 : isL2 l
  · have el : lpart l = (l.take (l.length - 2), l.drop (l.length - 2)) := if_pos h2
    obtain ⟨q, a, b, e, ha, hb, et, ed⟩ := two_shape h2
    have hl1 : last1 l = b := by unfold last1; rw [e]; simp
    by_cases hh : l.headD 0 = 45 ∨ l.headD 0 = 43
    · have ep : partP l = (l.drop 1, [l.headD 0]) := if_pos hh
      rw [el, ep]
      have hq : q ≠ [] := fun z => by
        rw [e, z] at hh
        have : a = 45 ∨ a = 43 := hh
        omega
      obtain ⟨c, r, rfl⟩ : ∃ c r, q = c :: r := by
        cases q with
        | nil => exact absurd rfl hq
        | cons c r => exact ⟨c, r, rfl⟩
      have hc : l.headD 0 = c := by rw [e]; rfl
      have ea : a ∈ l.drop 1 := by rw [e]; simp
      show ledB (l.take (l.length - 2)) _ = edP (l.drop 1) _
      rw [bad_none (x := a) ea (by omega) (by rcases ha with rfl | rfl <;> decide), et]
      refine ledB_bad (.inr ?_)
      show ¬ c ∈ Z3
      rw [hc] at hh
      rcases hh with rfl | rfl <;> decide
    · have ep : partP l = (l.take (l.length - 2), l.drop (l.length - 2)) := by
        unfold partP
        rw [if_neg hh, if_neg (by rw [hl1]; omega)]
        exact if_pos h2
      rw [el, ep]
      exact led_eq _ _ fun z => by
        have z : l.drop (l.length - 2) = [] := z
        rw [ed] at z; cases z
  · by_cases hh : l.headD 0 = 45 ∨ l.headD 0 = 43
    · have el : lpart l = (l.drop 1, [l.headD 0]) := by unfold lpart; rw [if_neg h2, if_pos hh]
      have ep : partP l = (l.drop 1, [l.headD 0]) := if_pos hh
      rw [el, ep]
      exact led_eq _ _ fun z => by cases z
    · by_cases hl : last1 l = 45 ∨ last1 l = 43
      · have el : lpart l = (l.take (l.length - 1), [46, last1 l]) := by unfold lpart; rw [if_neg h2, if_neg hh, if_pos hl]
        have ep : partP l = (l.take (l.length - 1), [46, last1 l]) := by unfold partP; rw [if_neg hh, if_pos hl]
        rw [el, ep]
        exact led_eq _ _ fun z => by cases z
      · have el : lpart l = (l, []) := by unfold lpart; rw [if_neg h2, if_neg hh, if_neg hl]
        have ep : partP l = (l, []) := by
          unfold partP
          rw [if_neg hh, if_neg hl]
          exact if_neg h2
        rw [el, ep]
        exact led_eq _ _ fun _ z => num_nines hn z
end MR
namespace MR
open PySem PySem.Spec PyProof.Rows L2 MW MT
open SX (S)
theorem lpart_len (l : List Nat) : (lpart l).1.length ≤ l.length := by
  unfold lpart
  split
  · show (l.take _).length ≤ _; rw [List.length_take]; omega
  · split
    · show (l.drop 1).length ≤ _; rw [List.length_drop]; omega
    · split
      · show (l.take _).length ≤ _; rw [List.length_take]; omega
      · exact Nat.le_refl _
theorem take_1 {l : List Nat} (h : 1 ≤ l.length) : l.take 1 = [l.headD 0] := by
  cases l with
  | nil => exact absurd h (by decide)
  | cons a r => rfl
theorem drop_1 {l : List Nat} (h : 1 ≤ l.length) : l.drop (l.length - 1) = [last1 l] := by
  have hne : l ≠ [] := fun z => by rw [z] at h; exact absurd h (by decide)
  have e := List.dropLast_concat_getLast hne
  have e2 : last1 l = l.getLast hne := by unfold last1; rw [List.getLast?_eq_some_getLast hne]; rfl
  rw [e2]
  have hd : l.dropLast.length = l.length - 1 := List.length_dropLast
  have : (l.dropLast ++ [l.getLast hne]).drop l.dropLast.length = [l.getLast hne] := List.drop_left
  rw [e, hd] at this
  exact this
theorem l2_take {l : List Nat} (h : isL2 l) : 2 ≤ l.length := by
  obtain ⟨q, a, b, e, _⟩ := two_shape h
  rw [e, List.length_append]; simp
end MR
namespace MR
open PySem PySem.Spec PyProof.Rows L2 MW MT
open SX (S)
theorem hidn_le (M : List Nat) : hidn M ≤ M.length := List.length_filter_le _ _
theorem mulM {M : List Nat} {H : Hp} {Q : VK} (h : M.length ≤ 1000) (q : Q (.str (S (List.replicate (hidn M) (M.headD 0)))) H) : WP.rMulS (.str (S (M.take 1))) (.int (hidn M : Int)) H Q := by
  cases M with
  | nil => exact ⟨S [], 0, rfl, rfl, by unfold MulOk; exact ⟨by decide, fun z => absurd (by decide) z, fun z => absurd (by decide) z⟩, q⟩
  | cons x r =>
    have := hidn_le (x :: r)
    exact WP.mulS (by omega) (by omega) (by rw [Int.toNat_natCast]; exact q)
theorem mk3_take {a : List Nat} {i c : Nat} (h : a[i]? = some c) : mk3 (a.take (i + 1)) = mk3 (a.take i) ++ (if c ∈ Z3 then [c] else []) := by
  have et : a.take (i + 1) = a.take i ++ [c] := by rw [List.take_succ, h]; rfl
  rw [et]
  unfold mk3
  rw [List.filter_append]
  by_cases hc : c ∈ Z3
  · rw [if_pos hc]; simp [hc]
  · rw [if_neg hc]; simp [hc]
def n57 (a : List Nat) : List Nat := a.filter (fun x => !decide (x = 57))
theorem n57_take {a : List Nat} {i c : Nat} (h : a[i]? = some c) : n57 (a.take (i + 1)) = n57 (a.take i) ++ (if c = 57 then [] else [c]) := by
  have et : a.take (i + 1) = a.take i ++ [c] := by rw [List.take_succ, h]; rfl
  rw [et]
  unfold n57
  rw [List.filter_append]
  by_cases hc : c = 57
  · rw [if_pos hc]; simp [hc]
  · rw [if_neg hc]; simp [hc]
theorem n57_len (a : List Nat) : (n57 a).length = hidn a := rfl
theorem n57_le (a : List Nat) : (n57 a).length ≤ a.length := List.length_filter_le _ _
theorem mk3_le (a : List Nat) : (mk3 a).length ≤ a.length := List.length_filter_le _ _
end MR
namespace MR
open PySem PySem.Spec PyProof.Rows L2 MW MT
open SX (S)
theorem nm {n : Nat} (h : n ≤ 100) : (TL.numL n).length ≤ 3 ∧ ∀ c ∈ TL.numL n, c < 128 := ⟨TL.numL_len (k := 3) (by decide) (by omega), fun c hc => by
  have := TL.numL_digits _ c hc
  omega⟩
theorem lt_app {a b : List Nat} (ha : ∀ c ∈ a, c < 128) (hb : ∀ c ∈ b, c < 128) : ∀ c ∈ a ++ b, c < 128 := fun c hc => (List.mem_append.mp hc).elim (ha c) (hb c)
end MR
namespace MR
open PySem PySem.Spec PyProof.Rows L2 MW MT
open SX (S)
theorem tw_at : ∀ {q : List Nat} {d : Nat}, d < (q.takeWhile fg).length → ∃ x, q[d]? = some x ∧ fg x = true
  | [], _, h => absurd h (by simp)
  | x :: r, d, h => by
    by_cases hx : fg x = true
    · cases d with
      | zero => exact ⟨x, rfl, hx⟩
      | succ d =>
        rw [List.takeWhile_cons_of_pos hx, List.length_cons] at h
        obtain ⟨y, h1, h2⟩ := tw_at (q := r) (d := d) (by omega)
        exact ⟨y, h1, h2⟩
    · rw [List.takeWhile_cons_of_neg hx] at h
      exact absurd h (by simp)
theorem tw_end : ∀ {q : List Nat} {x : Nat}, q[(q.takeWhile fg).length]? = some x → fg x = false
  | [], _, h => by simp at h
  | y :: r, x, h => by
    by_cases hy : fg y = true
    · rw [List.takeWhile_cons_of_pos hy, List.length_cons] at h
      exact tw_end (q := r) h
    · rw [List.takeWhile_cons_of_neg hy] at h
      have : y = x := by simpa using h
      rw [← this]
      exact not_true hy
theorem tw_le (q : List Nat) : (q.takeWhile fg).length ≤ q.length := (List.takeWhile_sublist _).length_le
theorem dn_fig {q : List Nat} : ∀ c ∈ q.take (dn q), fg c = true := fun c hc => by
  obtain ⟨i, hi, e⟩ := List.mem_iff_getElem.mp hc
  have hl : i < dn q := by rw [List.length_take] at hi; omega
  obtain ⟨x, h1, h2⟩ := tw_at (q := q) (d := i) (Nat.lt_of_lt_of_le hl (Nat.min_le_right _ _))
  have h3 : (q.take (dn q))[i]? = some c := by rw [List.getElem?_eq_getElem hi, e]
  rw [List.getElem?_take, if_pos hl, h1] at h3
  rw [← Option.some.inj h3]
  exact h2
theorem dn_len (q : List Nat) : (q.take (dn q)).length = dn q := by
  rw [List.length_take]
  have := tw_le q
  have : dn q ≤ (q.takeWhile fg).length := Nat.min_le_right _ _
  omega
theorem dn_figs {q : List Nat} (h : q.take (dn q) ≠ []) : figs (q.take (dn q)) = true := by
  unfold figs
  rw [decide_eq_false h]
  exact List.all_eq_true.mpr fun c hc => dn_fig c hc
theorem fg_iff (c : Nat) : decide (c ∈ FIG) = fg c := rfl
end MR
namespace MR
open PySem PySem.Spec PyProof.Rows L2 MW MT
open SX (S)
theorem spread_mem : ∀ (n : Nat) (l row : List Nat), l.length ≤ n → spread l = some row → ∀ c ∈ row, c ∈ l
  | _, [], row, _, h, c, hc => by rw [spread_nil] at h; cases h; exact hc
  | 0, x :: r, _, hn, _, _, _ => absurd hn (by simp)
  | n + 1, x :: r, row, hn, h, c, hc => by
    rw [spread_cons] at h
    cases e : cnt r with
    | none => rw [e] at h; cases h
    | some ck =>
      obtain ⟨m, k⟩ := ck
      rw [e] at h
      have h : (spread (r.drop k)).map (List.replicate m x ++ ·) = some row := h
      cases e2 : spread (r.drop k) with
      | none => rw [e2] at h; cases h
      | some q =>
        rw [e2] at h
        cases h
        rcases List.mem_append.mp hc with z | z
        · rw [List.eq_of_mem_replicate z]; exact .head _
        · exact .tail _ (List.mem_of_mem_drop (spread_mem n (r.drop k) q (by rw [List.length_drop]; simp at hn; omega) e2 c z))
theorem lawOut_lt {l : List Nat} (h : ∀ c ∈ l, c < 128) : ∀ c ∈ lawOut l, c < 128 := fun c hc => by
  unfold lawOut at hc
  cases e : spread l with
  | none => rw [e] at hc; cases hc
  | some row =>
    rw [e] at hc
    have hc : c ∈ (if row.length ≤ 80 then row else []) := hc
    by_cases h8 : row.length ≤ 80
    · rw [if_pos h8] at hc
      exact h c (spread_mem l.length l row (Nat.le_refl _) e c hc)
    · rw [if_neg h8] at hc; cases hc
end MR
namespace MR
open PySem PySem.Spec PyProof.Rows L2 MW MT
open SX (S)
def Res.ds : Res → List PyData
  | .txt n => [.str (S [116, 101, 120, 116]), .int (n : Int)]
  | .pic (.num sg w f) => [.str (S [110, 117, 109, 98, 101, 114]), .bool sg, .int (w : Int), .int (f : Int)]
  | .pic (.ed b w f s) => [.str (S [101, 100, 105, 116, 101, 100]), .str (S b), .int (w : Int), .int (f : Int), .str (S s)]
theorem Res.dp {K : PySem.W.Frag} {H : Hp} : ∀ r : Res, DpAll K H r.vs r.ds
  | .txt _ => .cons (.str _) (.cons (.int _) .nil)
  | .pic (.num _ _ _) => .cons (.str _) (.cons (.bl _) (.cons (.int _) (.cons (.int _) .nil)))
  | .pic (.ed _ _ _ _) => .cons (.str _) (.cons (.str _) (.cons (.int _) (.cons (.int _) (.cons (.str _) .nil))))
def Res.Lt : Res → Prop
  | .txt _ => True
  | .pic (.num _ _ _) => True
  | .pic (.ed b _ _ s) => (∀ c ∈ b, c < 128) ∧ ∀ c ∈ s, c < 128
theorem and2 {a b : Bool} (h : a = true) (k : b = true) : (a && b) = true := Bool.and_eq_true_iff.mpr ⟨h, k⟩
theorem Res.lay : ∀ {r : Res}, r.Lt → (PyData.tuple r.ds).canLay0 = true
  | .txt _, _ => and2 (WP.sok_S (l := [116, 101, 120, 116]) (by decide)) rfl
  | .pic (.num _ _ _), _ => and2 (WP.sok_S (l := [110, 117, 109, 98, 101, 114]) (by decide)) rfl
  | .pic (.ed _ _ _ _), h => and2 (WP.sok_S (l := [101, 100, 105, 116, 101, 100]) (by decide)) (and2 (WP.sok_S fun c hc => Nat.lt_trans (h.1 c hc) (by decide)) (and2 rfl (and2 rfl (and2 (WP.sok_S fun c hc => Nat.lt_trans (h.2 c hc) (by decide)) rfl))))
theorem Res.sh : ∀ {r : Res}, r.Lt → SeqAt.shaped (.tuple r.ds) = true
  | .txt _, h => and2 (Res.lay h) rfl
  | .pic (.num _ _ _), h => and2 (Res.lay h) rfl
  | .pic (.ed _ _ _ _), h => and2 (Res.lay h) rfl
theorem Res.ne (r : Res) (x : Str) : PyData.eqv (.tuple r.ds) (.str x) = false := by
  first | rfl | (cases r <;> rfl) | (unfold PyData.eqv; rfl)
theorem not_ed (A B : Prop) [Decidable A] [Decidable B] (sg : Bool) (x y : Nat) (b : List Nat) (w f : Nat) (s : List Nat) : (if A then none else if B then some (MP.Pic.num sg x y) else none) ≠ some (.ed b w f s) := by
  by_cases a : A
  · rw [if_pos a]; simp
  · rw [if_neg a]
    by_cases b : B
    · rw [if_pos b]; simp
    · rw [if_neg b]; simp
theorem row_lt {row : List Nat} {r : Res} (hl : ∀ c ∈ row, c < 128) (h : rowP row = some r) : r.Lt := by
  unfold rowP at h
  by_cases h1 : 1 ≤ row.length ∧ row.length ≤ 80
  · rw [if_pos h1] at h
    by_cases h2 : allM 120 row = true
    · rw [if_pos h2] at h
      cases h
      exact trivial
    · rw [if_neg h2] at h
      cases e : numP row with
      | some p =>
        rw [e] at h
        cases h
        rw [numB] at e
        cases p with
        | num _ _ _ => exact trivial
        | ed _ _ _ _ =>
          exact absurd e (not_ed _ _ _ _ _ _ _ _ _)
      | none =>
        rw [e] at h
        have h : (edP (partP row).1 (partP row).2).map Res.pic = some r := h
        have hp : (∀ c ∈ (partP row).1, c < 128) ∧ ∀ c ∈ (partP row).2, c < 128 := by
          unfold partP
          split
          · exact ⟨fun c hc => hl c (List.mem_of_mem_drop hc), fun c hc => by rw [List.mem_singleton.mp hc]; omega⟩
          · split
            · refine ⟨fun c hc => hl c (List.mem_of_mem_take hc), fun c hc => ?_⟩
              rcases List.mem_cons.mp hc with z | z
              · omega
              · rw [List.mem_singleton.mp z]; omega
            · split
              · exact ⟨fun c hc => hl c (List.mem_of_mem_take hc), fun c hc => hl c (List.mem_of_mem_drop hc)⟩
              · exact ⟨hl, fun c hc => by cases hc⟩
        rw [edP_def] at h
        split at h
        · cases h
        · split at h
          · cases h
          · split at h
            · cases h
            · split at h
              · cases h
              · cases h
                exact hp
  · rw [if_neg h1] at h
    cases h
theorem read_lt {l : List Nat} {r : Res} (hl : ∀ c ∈ l, c < 128) (h : readPic l = some r) : r.Lt := by
  rw [readPic_out] at h
  split at h
  · cases h
  · exact row_lt (lawOut_lt hl) h
end MR

namespace MR
open PySem PySem.Spec PyProof.Rows L2 MW MT
open SX (S)
/-! ### the canonical text -/
def sgm (s : List Nat) : List Nat := s.filter (fun x => !decide (x = 46))
theorem sgm_len (s : List Nat) : (sgm s).length ≤ s.length := List.length_filter_le _ _
def numT (sg : Bool) (w f : Nat) : List Nat := (if sg = true then [115] else []) ++ ((if w = 0 then [] else [57, 40] ++ TL.numL w ++ [41]) ++ (if f = 0 then [] else [118, 57, 40] ++ TL.numL f ++ [41]))
theorem numT_len (sg : Bool) {w f : Nat} (hw : w ≤ 100) (hf : f ≤ 100) : (numT sg w f).length ≤ 20 := by
  unfold numT
  have h1 := (nm hw).1
  have h2 := (nm hf).1
  split <;> split <;> split <;> simp <;> omega
def picT : Res → List Nat
  | .txt n => [120, 40] ++ TL.numL n ++ [41]
  | .pic (.num sg w f) => numT sg w f
  | .pic (.ed b _ _ s) => if s = [45] ∨ s = [43] then s ++ b else b ++ sgm s
end MR
namespace MR
def sizT : Res → Nat
  | .txt n => n
  | .pic (.num sg w f) => w + f + (if sg = true then 1 else 0)
  | .pic (.ed b _ _ s) => b.length + (sgm s).length
end MR
namespace MR
open PySem PySem.Spec PyProof.Rows L2 MW MT
open SX (S)
def isBl : V → Bool
  | .bl _ => true
  | _ => false
def inI : V → Int
  | .int i => i
  | _ => 0
def coS : V → List Nat
  | .str z => z.cps.toList
  | _ => []
theorem coS_S (l : List Nat) : coS (.str (S l)) = l := rfl
def edEq (b : List Nat) (i j : Int) (s : List Nat) : Bool := match edP b s with
  | some (.ed _ w f _) => decide (i = (w : Int)) && decide (j = (f : Int))
  | _ => false
theorem eqv5 {x y z : Str} {i j i' j' : Int} : PyData.eqv (.tuple [.str x, .str y, .int i, .int j, .str z]) (.tuple [.str x, .str y, .int i', .int j', .str z]) = (decide (i = i') && decide (j = j')) := by
  show (PyData.eqv (.str x) (.str x) && (PyData.eqv (.str y) (.str y) && (PyData.eqv (.int i) (.int i') && (PyData.eqv (.int j) (.int j') && (PyData.eqv (.str z) (.str z) && true))))) = _
  have e : ∀ a : Str, PyData.eqv (.str a) (.str a) = true := fun a => by
    show (a == a) = true
    simp
  have e2 : ∀ a b : Int, PyData.eqv (.int a) (.int b) = decide (a = b) := fun a b => by
    show (a == b) = _
    rfl
  rw [e, e, e, e2, e2, Bool.true_and, Bool.true_and, Bool.true_and, Bool.and_true]
theorem eqvN {ds : List PyData} : PyData.eqv (.tuple ds) .none = false := by
  first | rfl | (unfold PyData.eqv; rfl)
end MR
namespace MR
open PySem PySem.Spec PyProof.Rows L2 MW MT
open SX (S)
theorem isBlW {K : PySem.W.Frag} {H : Hp} {v : V} {Q : VK} (h : MW.Wd K H v) (q : Q (.bl (isBl v)) H) : rIsi K [v, .ty "bool"] H Q := by
  cases h with
  | str hl ok => exact WP.isN (.base (.str _)) q
  | non => exact WP.isN (.base .non) q
  | int i => exact WP.isN (.base (.int i)) q
  | bl b => exact WP.isY (.base (.bl b)) q
  | tup h => exact WP.isN (WP.tyT h) q
  | lst h => exact WP.isN (MW.tyL h) q
end MR
namespace MR
theorem edP_form {m sg : List Nat} {p : MP.Pic} (h : edP m sg = some p) : ∃ w f, p = .ed m w f sg := by
  rw [edP_def] at h
  split at h
  · cases h
  · split at h
    · cases h
    · split at h
      · cases h
      · split at h
        · cases h
        · exact ⟨_, _, (Option.some.inj h).symm⟩
end MR
namespace MR
/-- the parts are small -/
def Sm : Res → Prop
  | .txt n => n ≤ 100
  | .pic (.num _ w f) => w ≤ 100 ∧ f ≤ 100
  | .pic (.ed b _ _ s) => b.length ≤ 1000 ∧ s ∈ MP.signs
end MR
namespace MR
open PySem PySem.Spec PyProof.Rows L2 MW MT
open SX (S)
/-- a value that is no tuple -/
inductive NoT (K : PySem.W.Frag) (H : Hp) : V → Prop
  | str {l : List Nat} : NoT K H (.str (S l))
  | non : NoT K H .non
  | int (i : Int) : NoT K H (.int i)
  | lst {p : Addr} {xs : List V} (h : SqL K H p xs) : NoT K H (.ref p)
theorem NoT.isTup {K : PySem.W.Frag} {H : Hp} {v : V} {Q : VK} (h : NoT K H v) (q : Q (.bl false) H) : rIsi K [v, .ty "tuple"] H Q := by
  cases h with
  | str => exact WP.isN (.base (.str _)) q
  | non => exact WP.isN (.base .non) q
  | int i => exact WP.isN (.base (.int i)) q
  | lst h => exact WP.isN (MW.tyL h) q
end MR
namespace MR
open PySem PySem.Spec PyProof.Rows L2 MW MT
theorem Res.len : ∀ r : Res, 2 ≤ r.vs.length ∧ r.vs.length ≤ 5
  | .txt _ => ⟨by show 2 ≤ 2; decide, by show 2 ≤ 5; decide⟩
  | .pic (.num _ _ _) => ⟨by show 2 ≤ 4; decide, by show 4 ≤ 5; decide⟩
  | .pic (.ed _ _ _ _) => ⟨by show 2 ≤ 5; decide, by show 5 ≤ 5; decide⟩
theorem at_V {ls : List V} {i : Int} (h0 : 0 ≤ i) (h1 : i < (ls.length : Int)) : ∃ a ∈ ls, atI ls i = some a := by
  obtain ⟨j, rfl⟩ : ∃ j : Nat, i = (j : Int) := ⟨i.toNat, by omega⟩
  have hj : j < ls.length := by omega
  exact ⟨ls[j], List.getElem_mem hj, atI_nat (List.getElem?_eq_getElem hj)⟩
end MR
namespace MR
open PySem PySem.Spec PyProof.Rows L2 MW MT
open SX (S)
/-- the bodies that the law draws, and the odd texts that it puts in -/
def BODS : List (List Nat) := (MP.bodies ++ MP.bodies.flatMap (fun b => [[57], [57, 57], [57, 57, 57]].map fun f => b ++ [46] ++ f)) ++ [[], [122, 57], [57, 57], [57, 46, 57], [45], [46, 45], [99, 114], [120], [116, 101, 120, 116], [110, 117, 109, 98, 101, 114], [101, 100, 105, 116, 101, 100]]
def GoodB (xs : List V) : Prop := ∀ z : Str, xs[1]? = some (.str z) → ∃ l ∈ BODS, z = S l
end MR

namespace MF
open PySem PySem.Spec PyProof.Rows L2 MP
/-! ### fields read back -/
def siz (p : Pic) : Nat := MR.sizT (.pic p)
def lk : List Nat → List Nat → List Nat
  | m :: ms, c :: cs => if isD m = true then (if 48 ≤ c ∧ c ≤ 57 then c else 48) :: lk ms cs else lk ms cs
  | _, _ => []
theorem lk_len : ∀ ms cs : List Nat, ms.length = cs.length → (lk ms cs).length = (ms.filter isD).length
  | [], [], _ => rfl
  | m :: ms, c :: cs, h => by
    have ih := lk_len ms cs (by simpa using h)
    unfold lk
    by_cases d : isD m = true
    · rw [if_pos d, List.filter_cons, if_pos d, List.length_cons, List.length_cons, ih]
    · rw [if_neg d, List.filter_cons, if_neg d, ih]
theorem lk_dig : ∀ ms cs : List Nat, ∀ c ∈ lk ms cs, 48 ≤ c ∧ c ≤ 57
  | [], _, c, h => by unfold lk at h; cases h
  | _ :: _, [], c, h => by unfold lk at h; cases h
  | m :: ms, x :: cs, c, h => by
    unfold lk at h
    by_cases d : isD m = true
    · rw [if_pos d] at h
      rcases List.mem_cons.mp h with e | e
      · rw [e]
        split
        · assumption
        · decide
      · exact lk_dig ms cs c e
    · rw [if_neg d] at h
      exact lk_dig ms cs c h
theorem lk_body (fill : Nat) (hf : fill < 48) : ∀ (ms : List Nat) (hid : Bool) (fs : List Nat), (∀ c ∈ fs, 48 ≤ c ∧ c ≤ 57) → (ms.filter isD).length = fs.length → lk ms (bodyF fill hid ms fs) = fs ∧ (bodyF fill hid ms fs).length = ms.length
  | [], hid, fs, _, h => by
    have : fs = [] := List.length_eq_zero_iff.mp h.symm
    subst this
    unfold bodyF
    exact ⟨rfl, rfl⟩
  | m :: ms, hid, fs, hd, h => by
    by_cases d : isD m = true
    · rw [List.filter_cons, if_pos d, List.length_cons] at h
      match fs, h, hd with
      | [], h, _ => cases h
      | c :: cs, h, hd =>
        rw [bodyF_D d]
        have ih := lk_body fill hf ms (hid && (!(m == 57)) && (c == 48)) cs (fun c hc => hd c (.tail _ hc)) (by simpa using h)
        have hc := hd c (.head _)
        refine ⟨?_, by rw [List.length_cons, ih.2, List.length_cons]⟩
        unfold lk
        rw [if_pos d, ih.1]
        congr 1
        cases e : (hid && (!(m == 57)) && (c == 48)) with
        | false => rw [if_neg Bool.false_ne_true, if_pos hc]
        | true =>
          rw [if_pos rfl, if_neg (by omega)]
          have : (c == 48) = true := by
            rw [Bool.and_eq_true] at e; exact e.2
          exact (eq_of_beq this).symm
    · rw [List.filter_cons, if_neg d] at h
      by_cases h46 : m = 46
      · subst h46
        rw [bodyF_P]
        have ih := lk_body fill hf ms false fs hd h
        exact ⟨by unfold lk; rw [if_neg d, ih.1], by rw [List.length_cons, ih.2, List.length_cons]⟩
      · rw [bodyF_I (by simpa using d) h46]
        have ih := lk_body fill hf ms hid fs hd h
        exact ⟨by unfold lk; rw [if_neg d, ih.1], by rw [List.length_cons, ih.2, List.length_cons]⟩
theorem lk_nine : ∀ fs : List Nat, (∀ c ∈ fs, 48 ≤ c ∧ c ≤ 57) → lk (List.replicate fs.length 57) fs = fs
  | [], _ => rfl
  | c :: cs, h => by
    rw [List.length_cons, List.replicate_succ]
    unfold lk
    rw [if_pos (show isD 57 = true from rfl), if_pos (h c (.head _)), lk_nine cs fun c hc => h c (.tail _ hc)]
theorem nine_ct (n : Nat) : ((List.replicate n 57).filter isD).length = n := by
  rw [List.filter_replicate, if_pos (show isD 57 = true from rfl), List.length_replicate]
/-- the value of figures -/
theorem dv_app (a : Nat) (l : List Nat) (c : Nat) : (l ++ [c]).foldl (fun acc c => acc * 10 + (c - 48)) a = l.foldl (fun acc c => acc * 10 + (c - 48)) a * 10 + (c - 48) := by
  rw [List.foldl_append]; rfl
theorem dv_pad : ∀ k n : Nat, n < 10 ^ k → NumText.digitsVal (WP.padL k n) = n
  | 0, n, h => by
    have : n = 0 := by simpa using h
    subst this; rfl
  | k + 1, n, h => by
    have e10 : 10 ^ (k + 1) = 10 ^ k * 10 := Nat.pow_succ ..
    have ih := dv_pad k (n / 10) (by omega)
    unfold NumText.digitsVal at ih ⊢
    rw [show WP.padL (k + 1) n = WP.padL k (n / 10) ++ [48 + n % 10] from rfl, dv_app, ih]
    omega
theorem dv_lt : ∀ l : List Nat, (∀ c ∈ l, 48 ≤ c ∧ c ≤ 57) → NumText.digitsVal l < 10 ^ l.length := by
  intro l
  have h : ∀ n, ∀ l : List Nat, l.length = n → (∀ c ∈ l, 48 ≤ c ∧ c ≤ 57) → NumText.digitsVal l < 10 ^ n := by
    intro n
    induction n with
    | zero =>
      intro l hl _
      have : l = [] := List.length_eq_zero_iff.mp hl
      subst this
      decide
    | succ n ih =>
      intro l hl hd
      have hne : l ≠ [] := fun e => by rw [e] at hl; cases hl
      have e := List.dropLast_concat_getLast hne
      have hm := hd (l.getLast hne) (List.getLast_mem hne)
      have h2 := ih l.dropLast (by rw [List.length_dropLast, hl]; rfl) fun c hc => hd c (List.dropLast_subset l hc)
      rw [← e]
      unfold NumText.digitsVal at h2 ⊢
      rw [dv_app, Nat.pow_succ]
      omega
  exact h _ l rfl
theorem padL_dig : ∀ (k n c : Nat), c ∈ WP.padL k n → 48 ≤ c ∧ c ≤ 57
  | 0, _, _, h => by cases h
  | k + 1, n, c, h => by
    rcases List.mem_append.mp (show c ∈ WP.padL k (n / 10) ++ [48 + n % 10] from h) with e | e
    · exact padL_dig k _ c e
    · rw [List.mem_singleton.mp e]; omega
/-! ### the parts of a text -/
def many (p : Pic) (l : List Nat) : Nat := match p with
  | .num _ _ _ => l.length
  | .ed b _ _ _ => b.length
def cutS (p : Pic) (l : List Nat) : List Nat := if p.sgn ∈ [[45], [43]] then l.take 1 else l.drop (many p l)
def cutB (p : Pic) (l : List Nat) : List Nat := if p.sgn ∈ [[45], [43]] then l.drop 1 else l.take (many p l)
def mks (p : Pic) (b : List Nat) : List Nat := match p with
  | .num _ _ _ => List.replicate b.length 57
  | .ed m _ _ _ => m
def NEG : List (List Nat) := [[45], [67, 82], [68, 66]]
def likely (p : Pic) (l : List Nat) : Int :=
  if cutS p l ∈ NEG then -((NumText.digitsVal (lk (mks p (cutB p l)) (cutB p l)) : Nat) : Int) else ((NumText.digitsVal (lk (mks p (cutB p l)) (cutB p l)) : Nat) : Int)
def rd (p : Pic) (l : List Nat) : Option Int := if l.length = siz p ∧ writ p (likely p l) = l then some (likely p l) else none
def rdV : Option Int → V
  | none => .non
  | some u => .int u
def hld (r : MR.Res) (l : List Nat) : Bool := match r with
  | .txt n => decide (l.length = n) && MW.prn l
  | .pic p => (rd p l).isSome
theorem sgm_l : ∀ s ∈ MP.signs, (MR.sgm s).length = (if s = [] then 0 else if s = [99, 114] ∨ s = [100, 98] then 2 else 1) := by decide
theorem sgnT (w f : Nat) : (Pic.num true w f).sgn ∈ [[45], [43]] := show [43] ∈ [[45], [43]] by decide
theorem sgnF (w f : Nat) : ¬ (Pic.num false w f).sgn ∈ [[45], [43]] := show ¬ [] ∈ [[45], [43]] by decide
theorem sgnE (b : List Nat) (w f : Nat) : ¬ (Pic.ed b w f []).sgn ∈ [[45], [43]] := show ¬ [] ∈ [[45], [43]] by decide
theorem neg0 : ¬ ([] : List Nat) ∈ NEG := by decide
/-- the marks go with the body -/
theorem body_ok {p : Pic} {l : List Nat} (ho : p.Ok) (hl : l.length = siz p) : (mks p (cutB p l)).length = (cutB p l).length ∧ ((mks p (cutB p l)).filter isD).length = p.n ∧ (cutB p l).length ≤ 60 := by
  cases p with
  | num sg w f =>
    have h1 : w + f ≤ 18 := ho.2
    have hl : l.length = w + f + (if sg = true then 1 else 0) := hl
    have e : (cutB (.num sg w f) l).length = w + f := by
      unfold cutB
      cases sg with
      | true => rw [if_pos (sgnT w f), List.length_drop]; simp at hl; omega
      | false =>
        rw [if_neg (sgnF w f)]
        show (l.take l.length).length = _
        rw [List.take_length]
        simpa using hl
    refine ⟨List.length_replicate .., ?_, by omega⟩
    show ((List.replicate (cutB (.num sg w f) l).length 57).filter isD).length = w + f
    rw [nine_ct, e]
  | ed b w f s =>
    have hb := ho.2.2.1
    have hl : l.length = b.length + (MR.sgm s).length := hl
    have hs := sgm_l s ho.2.2.2
    have e : (cutB (.ed b w f s) l).length = b.length := by
      unfold cutB
      show (if s ∈ [[45], [43]] then l.drop 1 else l.take b.length).length = _
      by_cases h : s ∈ [[45], [43]]
      · rw [if_pos h, List.length_drop]
        have h' : s = [45] ∨ s = [43] := by simpa using h
        rcases h' with rfl | rfl <;> simp [MR.sgm] at hl <;> omega
      · rw [if_neg h, List.length_take]; omega
    exact ⟨e.symm, hb.ct, by have := hb.ln; omega⟩
theorem figs_ok {p : Pic} {l : List Nat} (ho : p.Ok) (hl : l.length = siz p) : (lk (mks p (cutB p l)) (cutB p l)).length = p.n := by
  obtain ⟨h1, h2, _⟩ := body_ok ho hl
  rw [lk_len _ _ h1, h2]
/-- a sign that is negative stands only where the picture has one -/
theorem neg_sgd {p : Pic} {l : List Nat} (ho : p.Ok) (hl : l.length = siz p) (h : cutS p l ∈ NEG) : p.sgd = true := by
  cases p with
  | num sg w f =>
    cases sg with
    | true => rfl
    | false =>
      exfalso
      unfold cutS at h
      rw [if_neg (sgnF w f)] at h
      have : (l.drop (many (.num false w f) l)) = [] := List.drop_length
      rw [this] at h
      exact neg0 h
  | ed b w f s =>
    by_cases e : s = []
    · exfalso
      subst e
      have hl : l.length = b.length + 0 := hl
      unfold cutS at h
      rw [if_neg (sgnE b w f)] at h
      have : (l.drop (many (.ed b w f []) l)) = [] := List.drop_eq_nil_of_le (by show l.length ≤ b.length; omega)
      rw [this] at h
      exact neg0 h
    · show (!decide (s = [])) = true
      rw [decide_eq_false e]; rfl
theorem likely_suits {p : Pic} {l : List Nat} (ho : p.Ok) (hl : l.length = siz p) : Suits p (likely p l) := by
  have h := dv_lt _ (lk_dig (mks p (cutB p l)) (cutB p l))
  rw [figs_ok ho hl] at h
  unfold likely
  split
  · rename_i hn
    exact ⟨by rw [Int.natAbs_neg, Int.natAbs_natCast]; exact h, .inr (neg_sgd ho hl hn)⟩
  · exact ⟨by rw [Int.natAbs_natCast]; exact h, .inl (by omega)⟩
theorem sg_len : ∀ s ∈ MP.signs, ∀ neg : Bool, (signText s neg).length = (MR.sgm s).length := by decide
theorem sg_neg : ∀ s ∈ MP.signs, s ≠ [] → ∀ neg : Bool, decide (signText s neg ∈ NEG) = neg := by decide
theorem bt_len {b : List Nat} {n : Nat} {fs : List Nat} (hb : Body b n) (hf : ∀ c ∈ fs, 48 ≤ c ∧ c ≤ 57) (hl : fs.length = n) : lk b (bodyText b fs) = fs ∧ (bodyText b fs).length = b.length :=
  lk_body _ (by unfold fillOf; split <;> decide) _ _ _ hf (by rw [hb.ct, hl])
/-- the sign and the body of a field -/
theorem writ_parts {p : Pic} {u : Int} (ho : p.Ok) (hs : Suits p u) : (writ p u).length = siz p ∧ (cutS p (writ p u) ∈ NEG ↔ u < 0) ∧ lk (mks p (cutB p (writ p u))) (cutB p (writ p u)) = WP.padL p.n u.natAbs := by
  have pd := fun c hc => padL_dig p.n u.natAbs c hc
  have pl := WP.padL_len p.n u.natAbs
  cases p with
  | num sg w f =>
    have pl' : (WP.padL (w + f) u.natAbs).length = w + f := pl
    have e : writ (.num sg w f) u = signText (if sg then [43] else []) (decide (u < 0)) ++ WP.padL (w + f) u.natAbs := rfl
    have nine : lk (List.replicate (WP.padL (w + f) u.natAbs).length 57) (WP.padL (w + f) u.natAbs) = WP.padL (w + f) u.natAbs := lk_nine _ pd
    rw [e]
    cases sg with
    | false =>
      have e0 : signText (if false = true then [43] else []) (decide (u < 0)) = [] := rfl
      rw [e0, List.nil_append]
      have eS : cutS (.num false w f) (WP.padL (w + f) u.natAbs) = [] := by
        unfold cutS
        rw [if_neg (sgnF w f)]
        exact List.drop_length
      have eB : cutB (.num false w f) (WP.padL (w + f) u.natAbs) = WP.padL (w + f) u.natAbs := by
        unfold cutB
        rw [if_neg (sgnF w f)]
        exact List.take_length
      refine ⟨pl', ?_, ?_⟩
      · rw [eS]
        have : ¬ u < 0 := by
          rcases hs.2 with h | h
          · omega
          · cases h
        exact ⟨fun h => absurd h neg0, fun h => absurd h this⟩
      · rw [eB]; exact nine
    | true =>
      have hl : (signText (if true = true then [43] else []) (decide (u < 0))).length = 1 := by
        have := sg_len [43] (by decide) (decide (u < 0))
        exact this
      have hn := sg_neg [43] (by decide) (by decide) (decide (u < 0))
      have hn : decide (signText (if true = true then [43] else []) (decide (u < 0)) ∈ NEG) = decide (u < 0) := hn
      generalize signText (if true = true then [43] else []) (decide (u < 0)) = sg at hl hn ⊢
      have eS : cutS (.num true w f) (sg ++ WP.padL (w + f) u.natAbs) = sg := by
        unfold cutS
        rw [if_pos (sgnT w f), List.take_append_of_le_length (by omega), List.take_of_length_le (by omega)]
      have eB : cutB (.num true w f) (sg ++ WP.padL (w + f) u.natAbs) = WP.padL (w + f) u.natAbs := by
        unfold cutB
        rw [if_pos (sgnT w f), ← hl, List.drop_left]
      refine ⟨by rw [List.length_append, hl, pl']; show 1 + (w + f) = w + f + 1; omega, ?_, ?_⟩
      · rw [eS]
        exact decide_eq_decide.mp hn
      · rw [eB]; exact nine
  | ed b w f s =>
    have hb := ho.2.2.1
    have hsg := ho.2.2.2
    obtain ⟨k1, k2⟩ := bt_len (fs := WP.padL (w + f) u.natAbs) hb pd pl
    have hl := sg_len s hsg (decide (u < 0))
    have e : writ (.ed b w f s) u = if s = [45] ∨ s = [43] then signText s (decide (u < 0)) ++ bodyText b (WP.padL (w + f) u.natAbs) else bodyText b (WP.padL (w + f) u.natAbs) ++ signText s (decide (u < 0)) := rfl
    have hneg : signText s (decide (u < 0)) ∈ NEG ↔ u < 0 := by
      by_cases hn : s = []
      · subst hn
        have : ¬ u < 0 := by
          rcases hs.2 with h | h
          · omega
          · cases h
        exact ⟨fun h => absurd h neg0, fun h => absurd h this⟩
      · exact decide_eq_decide.mp (sg_neg s hsg hn (decide (u < 0)))
    rw [e]
    generalize signText s (decide (u < 0)) = sg at *
    generalize bodyText b (WP.padL (w + f) u.natAbs) = T at *
    by_cases c : s = [45] ∨ s = [43]
    · have c' : s ∈ [[45], [43]] := by simpa using c
      have hl1 : sg.length = 1 := by
        rw [hl]
        rcases c with rfl | rfl <;> rfl
      rw [if_pos c]
      have eS : cutS (.ed b w f s) (sg ++ T) = sg := by
        unfold cutS
        rw [if_pos (show (Pic.ed b w f s).sgn ∈ [[45], [43]] from c'), List.take_append_of_le_length (by omega), List.take_of_length_le (by omega)]
      have eB : cutB (.ed b w f s) (sg ++ T) = T := by
        unfold cutB
        rw [if_pos (show (Pic.ed b w f s).sgn ∈ [[45], [43]] from c'), ← hl1, List.drop_left]
      rw [eS, eB]
      exact ⟨by rw [List.length_append, hl, k2]; show _ = b.length + (MR.sgm s).length; omega, hneg, k1⟩
    · have c' : ¬ s ∈ [[45], [43]] := by simpa using c
      rw [if_neg c]
      have eS : cutS (.ed b w f s) (T ++ sg) = sg := by
        unfold cutS
        rw [if_neg (show ¬ (Pic.ed b w f s).sgn ∈ [[45], [43]] from c')]
        show (T ++ sg).drop b.length = sg
        rw [← k2, List.drop_left]
      have eB : cutB (.ed b w f s) (T ++ sg) = T := by
        unfold cutB
        rw [if_neg (show ¬ (Pic.ed b w f s).sgn ∈ [[45], [43]] from c')]
        show (T ++ sg).take b.length = T
        rw [← k2, List.take_left]
      rw [eS, eB]
      exact ⟨by rw [List.length_append, hl, k2]; rfl, hneg, k1⟩
theorem likely_writ {p : Pic} {u : Int} (ho : p.Ok) (hs : Suits p u) : likely p (writ p u) = u := by
  obtain ⟨h1, h2, h3⟩ := writ_parts ho hs
  unfold likely
  rw [h3, dv_pad _ _ hs.1]
  by_cases c : u < 0
  · rw [if_pos (h2.mpr c)]; omega
  · rw [if_neg (fun h => c (h2.mp h))]; omega
theorem rd_writ {p : Pic} {u : Int} (ho : p.Ok) (hs : Suits p u) : rd p (writ p u) = some u := by
  unfold rd
  rw [likely_writ ho hs, if_pos ⟨(writ_parts ho hs).1, rfl⟩]
theorem rd_some {p : Pic} {l : List Nat} {u : Int} (ho : p.Ok) (h : rd p l = some u) : Suits p u ∧ writ p u = l := by
  unfold rd at h
  split at h
  · rename_i c
    cases h
    exact ⟨likely_suits ho c.1, c.2⟩
  · cases h
theorem rd_none {p : Pic} {l : List Nat} (ho : p.Ok) (h : rd p l = none) {u : Int} (hs : Suits p u) : writ p u ≠ l := fun e => by
  rw [← e, rd_writ ho hs] at h
  cases h
theorem siz_le {p : Pic} (ho : p.Ok) : siz p ≤ 64 := by
  cases p with
  | num sg w f =>
    have h1 : w + f ≤ 18 := ho.2
    show w + f + (if sg = true then 1 else 0) ≤ 64
    split <;> omega
  | ed b w f s =>
    have hb := ho.2.2.1.ln
    have hs := sgm_l s ho.2.2.2
    show b.length + (MR.sgm s).length ≤ 64
    rw [hs]
    split
    · omega
    · split <;> omega
theorem cutB_mem {p : Pic} {l : List Nat} {c : Nat} (h : c ∈ cutB p l) : c ∈ l := by
  unfold cutB at h
  split at h
  · exact List.mem_of_mem_drop h
  · exact List.mem_of_mem_take h
theorem figs1 (d : Nat) : MW.figs [d] = decide (48 ≤ d ∧ d ≤ 57) := by
  have e : MW.figs [d] = decide (d ∈ MW.FIG) := by
    unfold MW.figs MW.allIn
    simp
  rw [e]
  congr 1
  refine propext ⟨fun h => ?_, fun ⟨h1, h2⟩ => ?_⟩
  · have h' : d = 48 ∨ d = 49 ∨ d = 50 ∨ d = 51 ∨ d = 52 ∨ d = 53 ∨ d = 54 ∨ d = 55 ∨ d = 56 ∨ d = 57 := by simpa [MW.FIG] using h
    omega
  · have : ∀ d < 58, 48 ≤ d → d ∈ MW.FIG := by decide
    exact this d (by omega) h1
theorem lk_drop {mk bd : List Nat} {i c d : Nat} (h1 : mk[i]? = some c) (h2 : bd[i]? = some d) : lk (mk.drop i) (bd.drop i) = (if isD c = true then [if 48 ≤ d ∧ d ≤ 57 then d else 48] else []) ++ lk (mk.drop (i + 1)) (bd.drop (i + 1)) := by
  rw [drop_some h1, drop_some h2]
  show (if isD c = true then _ else _) = _
  split <;> rfl
theorem flat1 : ∀ l : List Nat, (l.map fun c => [c]).flatten = l
  | [] => rfl
  | c :: l => by rw [List.map_cons, List.flatten_cons, flat1 l]; rfl
theorem sum1 : ∀ l : List Nat, (l.map ((fun x : List Nat => x.length) ∘ fun c => [c])).sum = l.length
  | [] => rfl
  | c :: l => by rw [List.map_cons, List.sum_cons, sum1 l, List.length_cons]; show 1 + _ = _; omega
theorem dig_all {l : List Nat} (h : ∀ c ∈ l, 48 ≤ c ∧ c ≤ 57) : l.all (fun c => decide (48 ≤ c) && decide (c ≤ 57)) = true := by
  rw [List.all_eq_true]
  intro c hc
  rw [Bool.and_eq_true, decide_eq_true_eq, decide_eq_true_eq]
  exact h c hc
/-- the signs at the digits' places, as they stand -/
def raw : List Nat → List Nat → List Nat
  | m :: ms, c :: cs => if isD m = true then c :: raw ms cs else raw ms cs
  | _, _ => []
def fx (c : Nat) : Nat := if 48 ≤ c ∧ c ≤ 57 then c else 48
theorem raw_lk : ∀ ms cs : List Nat, (raw ms cs).map fx = lk ms cs
  | [], _ => by unfold raw lk; rfl
  | _ :: _, [] => by unfold raw lk; rfl
  | m :: ms, c :: cs => by
    unfold raw lk
    by_cases d : isD m = true
    · rw [if_pos d, if_pos d, List.map_cons, raw_lk ms cs]; rfl
    · rw [if_neg d, if_neg d, raw_lk ms cs]
theorem raw_take : ∀ {ms cs : List Nat} {i c d : Nat}, ms[i]? = some c → cs[i]? = some d → raw (ms.take (i + 1)) (cs.take (i + 1)) = raw (ms.take i) (cs.take i) ++ if isD c = true then [d] else []
  | [], _, _, _, _, h, _ => by simp at h
  | _ :: _, [], _, _, _, _, h => by simp at h
  | m :: ms, x :: cs, 0, c, d, h1, h2 => by
    simp at h1 h2
    subst h1 h2
    show raw (m :: []) (x :: []) = raw [] [] ++ _
    unfold raw
    split <;> rfl
  | m :: ms, x :: cs, i + 1, c, d, h1, h2 => by
    have ih := raw_take (ms := ms) (cs := cs) (i := i) (by simpa using h1) (by simpa using h2)
    show raw (m :: ms.take (i + 1)) (x :: cs.take (i + 1)) = raw (m :: ms.take i) (x :: cs.take i) ++ _
    unfold raw
    by_cases d : isD m = true
    · rw [if_pos d, if_pos d, ih]; rfl
    · rw [if_neg d, if_neg d, ih]
theorem fig_mem (c : Nat) : c ∈ [48, 49, 50, 51, 52, 53, 54, 55, 56, 57] ↔ 48 ≤ c ∧ c ≤ 57 := by
  refine ⟨fun h => ?_, fun ⟨h1, h2⟩ => ?_⟩
  · have h' : c = 48 ∨ c = 49 ∨ c = 50 ∨ c = 51 ∨ c = 52 ∨ c = 53 ∨ c = 54 ∨ c = 55 ∨ c = 56 ∨ c = 57 := by simpa using h
    omega
  · have : ∀ d < 58, 48 ≤ d → d ∈ [48, 49, 50, 51, 52, 53, 54, 55, 56, 57] := by decide
    exact this c (by omega) h1
end MF

namespace WP
open PySem PySem.Spec PyProof.Rows L2
theorem op_isBl {X : Cx} : OpR X (compareOp .Is) rIsB := L2.op_isBl
theorem op_notBl {X : Cx} : OpR X (compareOp .IsNot) rNotB := L2.op_notBl
theorem isBl {a b : Bool} {H : Hp} {Q : VK} (q : Q (.bl (decide (a = b))) H) : rIsB (.bl a) (.bl b) H Q := ⟨a, b, rfl, rfl, q⟩
theorem at_C {l : List Nat} {i : Int} (h0 : 0 ≤ i) (h1 : i < (l.length : Int)) : ∃ c, c ∈ l ∧ atI l i = some c := by
  have hl : i.toNat < l.length := by omega
  refine ⟨l[i.toNat], List.getElem_mem hl, ?_⟩
  have := atI_nat (xs := l) (j := i.toNat) (List.getElem?_eq_getElem hl)
  rw [Int.toNat_of_nonneg h0] at this
  exact this
end WP
namespace MF
open PySem PySem.Spec PyProof.Rows L2 MP
theorem range_none (P : Nat → Bool) : ∀ n, (∀ j < n, P j = false) → (List.range n).filter P = [] := fun n h => by
  rw [List.filter_eq_nil_iff]
  intro j hj
  rw [h j (List.mem_range.mp hj)]
  exact Bool.false_ne_true
theorem range_one (P : Nat → Bool) : ∀ n a, a < n → (∀ j < n, P j = decide (j = a)) → (List.range n).filter P = [a]
  | 0, a, h, _ => absurd h (by omega)
  | n + 1, a, h, hp => by
    rw [List.range_succ, List.filter_append]
    by_cases e : a = n
    · subst e
      rw [range_none P a fun j hj => by rw [hp j (by omega)]; exact decide_eq_false (by omega)]
      have : P a = true := by rw [hp a (by omega)]; exact decide_eq_true rfl
      simp [this]
    · rw [range_one P n a (by omega) fun j hj => hp j (by omega)]
      have : P n = false := by rw [hp n (by omega)]; exact decide_eq_false (by omega)
      simp [this]
def knw (p : Pic) (l : List Nat) : List Int := match rd p l with
  | none => []
  | some u => [u]
def fnd1 (p : Pic) (l : List Nat) (i : Nat) : List Int := ((List.range i).filter fun (j : Nat) => decide (writ p (j : Int) = l)).map fun (j : Nat) => (j : Int)
def fnd2 (p : Pic) (l : List Nat) (i : Nat) : List Int := ((List.range i).filter fun (j : Nat) => decide (writ p (-(1 + (j : Int))) = l)).map fun (j : Nat) => -(1 + (j : Int))
theorem fnd1_succ (p : Pic) (l : List Nat) (i : Nat) : fnd1 p l (i + 1) = fnd1 p l i ++ (if writ p (i : Int) = l then [(i : Int)] else []) := by
  unfold fnd1
  rw [List.range_succ, List.filter_append, List.map_append]
  congr 1
  by_cases h : writ p (i : Int) = l
  · simp [h]
  · simp [h]
theorem fnd2_succ (p : Pic) (l : List Nat) (i : Nat) : fnd2 p l (i + 1) = fnd2 p l i ++ (if writ p (-(1 + (i : Int))) = l then [-(1 + (i : Int))] else []) := by
  unfold fnd2
  rw [List.range_succ, List.filter_append, List.map_append]
  congr 1
  by_cases h : writ p (-(1 + (i : Int))) = l
  · simp [h]
  · simp [h]
theorem fnd1_len (p : Pic) (l : List Nat) (i : Nat) : (fnd1 p l i).length ≤ i := by
  unfold fnd1
  rw [List.length_map]
  exact Nat.le_trans (List.length_filter_le _ (List.range i)) (Nat.le_of_eq List.length_range)
theorem fnd2_len (p : Pic) (l : List Nat) (i : Nat) : (fnd2 p l i).length ≤ i := by
  unfold fnd2
  rw [List.length_map]
  exact Nat.le_trans (List.length_filter_le _ (List.range i)) (Nat.le_of_eq List.length_range)
theorem writ_iff {p : Pic} {l : List Nat} {u v : Int} (ho : p.Ok) (h : rd p l = some u) (hv : Suits p v) : writ p v = l ↔ v = u := by
  refine ⟨fun e => ?_, fun e => by rw [e]; exact (rd_some ho h).2⟩
  rw [← e, rd_writ ho hv] at h
  exact Option.some.inj h
theorem known_eq {p : Pic} {l : List Nat} (ho : p.Ok) : fnd1 p l (10 ^ p.n) ++ (if p.sgd = true then fnd2 p l (10 ^ p.n - 1) else []) = knw p l := by
  have hT : 0 < 10 ^ p.n := Nat.pow_pos (by decide)
  have s1 : ∀ j : Nat, j < 10 ^ p.n → Suits p (j : Int) := fun j hj => ⟨by rw [Int.natAbs_natCast]; exact hj, .inl (by omega)⟩
  have s2 : p.sgd = true → ∀ j : Nat, j < 10 ^ p.n - 1 → Suits p (-(1 + (j : Int))) := fun h j hj => ⟨by omega, .inr h⟩
  unfold knw
  cases e : rd p l with
  | none =>
    have f1 : fnd1 p l (10 ^ p.n) = [] := by
      unfold fnd1
      rw [range_none _ _ fun j hj => decide_eq_false (rd_none ho e (s1 j hj))]
      rfl
    rw [f1, List.nil_append]
    split
    · rename_i h
      unfold fnd2
      rw [range_none _ _ fun j hj => decide_eq_false (rd_none ho e (s2 h j hj))]
      rfl
    · rfl
  | some u =>
    have hu := (rd_some ho e).1
    by_cases c : u < 0
    · have f1 : fnd1 p l (10 ^ p.n) = [] := by
        unfold fnd1
        rw [range_none _ _ fun j hj => decide_eq_false (fun z => by have := (writ_iff ho e (s1 j hj)).mp z; omega)]
        rfl
      have hs : p.sgd = true := by
        rcases hu.2 with h | h
        · omega
        · exact h
      rw [f1, List.nil_append, if_pos hs]
      unfold fnd2
      rw [range_one _ (10 ^ p.n - 1) (-u - 1).toNat (by have := hu.1; omega) fun j hj => ?_]
      · show [-(1 + (((-u - 1).toNat : Nat) : Int))] = [u]
        congr 1
        omega
      · rw [decide_eq_decide, writ_iff ho e (s2 hs j hj)]
        omega
    · have f1 : fnd1 p l (10 ^ p.n) = [u] := by
        unfold fnd1
        rw [range_one _ (10 ^ p.n) u.toNat (by have := hu.1; omega) fun j hj => ?_]
        · show [((u.toNat : Nat) : Int)] = [u]
          congr 1
          omega
        · rw [decide_eq_decide, writ_iff ho e (s1 j hj)]
          omega
      rw [f1]
      split
      · rename_i h
        unfold fnd2
        rw [range_none _ _ fun j hj => decide_eq_false (fun z => by have := (writ_iff ho e (s2 h j hj)).mp z; omega)]
        rfl
      · rfl
/-- the signs that may be put in -/
def CHG : List Nat := [48, 49, 53, 57, 32, 42, 45, 43, 44, 46, 47, 67, 82, 68, 66, 10, 120]
def TXB : List Nat := [97, 98, 32, 99, 47]
theorem prn_nl {l : List Nat} (h : ∀ c ∈ l, c ∈ TXB ∨ c ∈ CHG) : MW.prn l = !decide (10 ∈ l) := by
  unfold MW.prn
  by_cases e : 10 ∈ l
  · rw [decide_eq_true e]
    have : l.all (fun c => decide (32 ≤ c ∧ c ≤ 126 ∧ c ≠ 37)) = false := by
      rw [List.all_eq_false]
      exact ⟨10, e, by decide⟩
    rw [this]; rfl
  · rw [decide_eq_false e]
    have : l.all (fun c => decide (32 ≤ c ∧ c ≤ 126 ∧ c ≠ 37)) = true := by
      rw [List.all_eq_true]
      intro c hc
      have k : ∀ c ∈ TXB ++ CHG, c ≠ 10 → decide (32 ≤ c ∧ c ≤ 126 ∧ c ≠ 37) = true := by decide
      refine k c ?_ (fun z => e (z ▸ hc))
      rw [List.mem_append]
      exact h c hc
    rw [this]; rfl
def TX3 : List Nat := TXB ++ TXB ++ TXB
theorem mul3 : Txt.mul (SX.S TXB) 3 = SX.S TX3 := by decide +kernel
theorem mulOk3 : MulOk (SX.S TXB) 3 := by
  refine ⟨by decide +kernel, fun _ _ => by decide +kernel, fun _ _ => ?_⟩
  unfold Builtin.Str.tooLong
  exact decide_eq_false (by rw [sizeLine_eq]; decide +kernel)
theorem hld_eq {n : Nat} {l : List Nat} (h : ∀ c ∈ l, c ∈ TXB ∨ c ∈ CHG) : hld (.txt n) l = (decide (l.length = n) && !decide (10 ∈ l)) := by
  show (decide (l.length = n) && MW.prn l) = _
  rw [prn_nl h]
theorem chg_lt : ∀ c ∈ CHG, c < 128 := by decide
theorem txb_lt : ∀ c ∈ TXB, c < 128 := by decide
theorem tx3_mem {c : Nat} (h : c ∈ TX3) : c ∈ TXB := by
  unfold TX3 at h
  rw [List.mem_append, List.mem_append] at h
  rcases h with (h | h) | h <;> exact h
theorem writ_lt {p : Pic} {u : Int} (ho : p.Ok) : ∀ c ∈ writ p u, c < 128 := fun c hc => by
  cases p with
  | num sg w f =>
    rcases List.mem_append.mp (show c ∈ signText (if sg then [43] else []) (decide (u < 0)) ++ WP.padL (w + f) u.natAbs from hc) with e | e
    · refine signText_lt _ ?_ _ c e
      cases sg
      · exact (show ([] : List Nat) ∈ MP.signs by decide)
      · exact (show ([43] : List Nat) ∈ MP.signs by decide)
    · have := padL_dig _ _ c e
      omega
  | ed b w f s =>
    have hb : ∀ c ∈ bodyText b (WP.padL (w + f) u.natAbs), c < 128 := bodyF_lt _ (by unfold fillOf; split <;> decide) _ _ _ ho.2.2.1.ok (fun c hc => by have := padL_dig _ _ c hc; omega)
    have hs := signText_lt s ho.2.2.2 (decide (u < 0))
    have hc' : c ∈ (if s = [45] ∨ s = [43] then signText s (decide (u < 0)) ++ bodyText b (WP.padL (w + f) u.natAbs) else bodyText b (WP.padL (w + f) u.natAbs) ++ signText s (decide (u < 0))) := hc
    split at hc'
    · rcases List.mem_append.mp hc' with e | e
      · exact hs c e
      · exact hb c e
    · rcases List.mem_append.mp hc' with e | e
      · exact hb c e
      · exact hs c e
theorem mulTX {H : Hp} {Q : VK} (q : Q (.str (SX.S TX3)) H) : WP.rMulS (.str (SX.S [97, 98, 32, 99, 47])) (.int 3) H Q := ⟨SX.S TXB, 3, rfl, rfl, mulOk3, by rw [mul3]; exact q⟩
end MF

namespace WP
open PySem PySem.Spec PyProof.Rows L2
theorem at_M {α : Type} {l : List α} (f : α → V) {i : Int} (h0 : 0 ≤ i) (h1 : i < (l.length : Int)) : ∃ c, c ∈ l ∧ atI (l.map f) i = some (f c) := by
  have hl : i.toNat < l.length := by omega
  refine ⟨l[i.toNat], List.getElem_mem hl, ?_⟩
  have := atI_nat (xs := l.map f) (j := i.toNat) (by rw [List.getElem?_map, List.getElem?_eq_getElem hl]; rfl)
  rw [Int.toNat_of_nonneg h0] at this
  exact this
theorem flat_one {α : Type} (x : α) : ∀ k : Nat, (List.replicate k [x]).flatten = List.replicate k x
  | 0 => rfl
  | k + 1 => by rw [List.replicate_succ, List.flatten_cons, flat_one x k, List.replicate_succ]; rfl
theorem rep1 {H : Hp} {Q : VK} {p : Addr} {x : V} {k : Int} (h : H p = some (.lst [x])) (k0 : 0 ≤ k) (k1 : k ≤ 1000) (q : ∀ a, H a = none → Q (.ref a) (upd H a (.lst (List.replicate k.toNat x)))) : rRep (.ref p) (.int k) H Q :=
  ⟨p, k, [x], rfl, rfl, h, by omega, by omega, by rw [sizeLine_eq]; simp; omega, fun a ha => by rw [flat_one]; exact q a ha⟩
theorem catLL {H : Hp} {Q : VK} {p b : Addr} {xs ys : List V} (h : H p = some (.lst xs)) (h2 : H b = some (.lst ys)) (hz : xs.length + ys.length ≤ 1000000) (q : ∀ a, H a = none → Q (.ref a) (upd H a (.lst (xs ++ ys)))) : rCat (.ref p) (.ref b) H Q :=
  ⟨p, b, xs, ys, rfl, rfl, h, h2, by rw [sizeLine_eq]; omega, q⟩
/-- all but what stands at d stays, tables stay tables -/
structure Sn (d : Addr) (H H' : Hp) : Prop where
  k : ∀ b u, b ≠ d → H b = some u → NT u → H' b = some u
  t : ∀ P, GxR.TabG H P → GxR.TabG H' P
theorem Sn.refl {d : Addr} {H : Hp} : Sn d H H := ⟨fun _ _ _ e _ => e, fun _ h => h⟩
theorem Sn.trans {d : Addr} {H H' H2 : Hp} (a : Sn d H H') (b : Sn d H' H2) : Sn d H H2 := ⟨fun x u m e n => b.k x u m (a.k x u m e n) n, fun P h => b.t P (a.t P h)⟩
theorem Sn.of {d : Addr} {H H' : Hp} (e : Sm H H') : Sn d H H' := ⟨fun b u _ h n => e.k b u h n, e.t⟩
theorem Sn.sx {d : Addr} {H H' : Hp} {ys : List V} (e : Sx d H H') (hd : H d = some (.lst ys)) : Sn d H H' := ⟨fun b u m h _ => e b u m h, fun P ⟨ps, h, t⟩ => ⟨ps, e P _ (fun z => by rw [z, hd] at h; cases h) h, t⟩⟩
theorem Sn.tup {K : PySem.W.Frag} {d : Addr} {H H' : Hp} {p : Addr} {xs ys : List V} (e : Sn d H H') (hd : H d = some (.lst ys)) (h : SqT K H p xs) : SqT K H' p xs := by
  rcases h with (h | ⟨o, h⟩) | h
  · exact .inl (.inl (e.k _ _ (fun z => by rw [z, hd] at h; cases h) h nt_tup))
  · exact .inl (.inr ⟨o, e.k _ _ (fun z => by rw [z, hd] at h; cases h) h nt_frz⟩)
  · exact .inr h
end WP
namespace WP
open PySem PySem.Spec PyProof.Rows L2
theorem bt8 {m : Int} (h : m.natAbs ≤ 10 ^ 18) : Bt m 8000 := Nat.lt_of_le_of_lt h (Nat.lt_of_lt_of_le (show 10 ^ 18 < 2 ^ 60 by decide) (Nat.pow_le_pow_right (by decide) (by decide)))
end WP
namespace WP
open PySem PySem.Spec PyProof.Rows L2
theorem par {i j : Nat} {ta : TA} {D : Ends} {σ : L2.St} {H : Hp} (h : ta σ H fun vs H1 => ∃ v w, vs = [v, w] ∧ D.nx ((σ.set i (some v)).set j (some w)) H1) : tPar i j ta D σ H := h
end WP
namespace WP
open PySem PySem.Spec PyProof.Rows L2
theorem ifSv {c : Prop} [Decidable c] {a b : List Nat} {i : Nat} {σ : L2.St} {H : Hp} {Q : VK} (hv : σ[i]? = some (some (.str (SX.S b)))) (q : Q (.str (SX.S (if c then a else b))) H) : if decide c = true then tC (.str (SX.S a)) σ H Q else tVar i σ H Q := by
  by_cases h : c
  · rw [if_pos (decide_eq_true h)]; rw [if_pos h] at q; exact WP.con q
  · rw [if_neg (by rw [decide_eq_false h]; exact Bool.false_ne_true)]; rw [if_neg h] at q; exact WP.var hv q
end WP
namespace WP
open PySem PySem.Spec PyProof.Rows L2
theorem notBl {a b : Bool} {H : Hp} {Q : VK} (q : Q (.bl (!decide (a = b))) H) : rNotB (.bl a) (.bl b) H Q := ⟨a, b, rfl, rfl, q⟩
end WP

namespace WP
open PySem PySem.Spec PyProof.Rows L2
/-! ### list.extend with a list or a tuple -/
def rExtA (K : PySem.W.Frag) : V → List V → Hp → VK → Prop := fun x vs H Q => ∃ l b xs zs, x = .ref l ∧ vs = [.ref b] ∧ H l = some (.lst xs) ∧ (H b = some (.lst zs) ∨ SqT K H b zs) ∧ xs.length + zs.length ≤ 1000000 ∧ Q .non (upd H l (.lst (xs ++ zs)))
end WP
namespace PySem
open Sem (wp)
open AutoSeq1
theorem wp_list_extend_tup (l : Addr) (items : Array Value) (n : Nat) (b : Addr) (items2 : Array Value) (n2 : Nat) (od : Option Addr) (osl : Array (Option Value)) (hs0 : ¬(!items.isEmpty && Builtin.List.listTooLong (items.size + items2.size)) = true) (hs1 : items.size ≤ sizeLine) (hs2 : items.size + items2.size ≤ sizeLine + 1 := by seq_fits) :
    Meets (Builtin.«list.extend» ⟨[.ref l, .ref b], []⟩) (fun _ R s => s.heap.get? l = some { cls := .type "list", dict := none, data := .seq items n, slots := #[] } ∧ s.heap.get? b = some { cls := .type "tuple", dict := od, data := .seq items2 n2, slots := osl } ∧ R (.ok (.ret Value.none)) { s with heap := s.heap.update l (Obj.mapSeq fun x => x ++ items2), toks := s.toks }) :=
  .of_wp fun prog w A R s h => by
    obtain ⟨hp, g, d, tk, os⟩ := s; obtain ⟨hl, hb, h⟩ := h; have f2 := sub_tuple_tuple; have f3 := sub_list_list; have f4 := sub_tuple_list; have f5 := sub_list_tuple;
    have hz' : (items ++ items2).size ≤ sizeLine + 1 := by rw [Array.size_append]; exact hs2
    wp_walk using (wpAny_updateSeq hl rfl (hz := hs1) (_hz' := hz')), wpAny_loadPart' hl, wpAny_loadPart' hb; exact ⟨_, rfl, h⟩
end PySem
namespace WP
open PySem PySem.Spec PyProof.Rows L2
theorem mt_extendT {X : Cx} : MtM X "list.extend" (fun x vs H Q => ∃ l b xs zs, x = .ref l ∧ vs = [.ref b] ∧ H l = some (.lst xs) ∧ SqT X.K H b zs ∧ xs.length + zs.length ≤ 1000000 ∧ Q .non (upd H l (.lst (xs ++ zs)))) := by
  intro pins s σ H x vs v us Q I rx rv h
  obtain ⟨l, b, xs, zs, rfl, rfl, hH, hB, hz, q⟩ := h
  cases rx
  obtain ⟨u, rfl, ru⟩ := rv.one
  cases ru
  obtain ⟨z, its, n, r, hl, e⟩ := I.lstM hH
  obtain ⟨its2, r2, ht, hz2⟩ := I.tuple hB
  have hl2 := r2.length
  have hsz : its.toArray.size + its2.toArray.size ≤ sizeLine := by rw [List.size_toArray, List.size_toArray, sizeLine_eq]; omega
  have hlong : ¬ (!its.toArray.isEmpty && Builtin.List.listTooLong (its.toArray.size + its2.toArray.size)) = true := by
    rw [notLongL hsz, Bool.and_false]
    exact Bool.false_ne_true
  obtain ⟨⟨oc, od, oda, osl⟩, ho, hc, n2, hd⟩ := ht
  dsimp only at hc hd
  subst hc hd
  refine call_meets F.slot_list_extend ⟨_, e, rfl⟩ F.entry_list_extend (F.args_list_extend_2 _ _)
    (PySem.wp_list_extend_tup l its.toArray n b its2.toArray n2 od osl hlong (by rw [List.size_toArray, sizeLine_eq]; omega) (by omega)) ⟨e, ho, ?_⟩
  refine ⟨.non, _, I.lset (its' := its ++ its2) hH e (by simp) (r.append r2) ?_, rfl, q⟩
  rw [List.length_append, sizeLine_eq]
  omega
theorem mt_extendA {X : Cx} : MtM X "list.extend" (rExtA X.K) := by
  intro pins s σ H x vs v us Q I rx rv h
  obtain ⟨l, b, xs, zs, e1, e2, hH, hB, hz, q⟩ := h
  rcases hB with hB | hB
  · exact mt_extend pins s σ H x vs v us Q I rx rv ⟨l, b, xs, zs, e1, e2, hH, hB, by rw [sizeLine_eq]; omega, q⟩
  · exact mt_extendT pins s σ H x vs v us Q I rx rv ⟨l, b, xs, zs, e1, e2, hH, hB, hz, q⟩
/-! ### sorted(d), d a dict whose keys are ints -/
def rSortD : List V → Hp → VK → Prop := fun vs H Q => ∃ (a : Addr) (kvs : List (Key × V)) (ns : List Int), vs = [.ref a] ∧ H a = some (.dK kvs) ∧ kvs.map (·.1) = ns.map Sum.inl ∧
  ∀ (ns' : List Int) (p : Addr), ns'.Perm ns → ns'.Pairwise (· ≤ ·) → H p = none → Q (.ref p) (upd H p (.lst (ns'.map V.int)))
theorem paired_back {α β : Type} {F : α → β → Prop} : ∀ {l₁ : List α} {l₂ : List β}, Paired F l₁ l₂ → ∀ {j : Nat} {b : β}, l₂[j]? = some b → ∃ a, l₁[j]? = some a ∧ F a b
  | _, _, .nil, j, b, h => by cases h
  | _, _, .cons (l₁ := l₁) (l₂ := l₂) hf t, 0, b, h => by cases h; exact ⟨_, rfl, hf⟩
  | _, _, .cons (l₁ := l₁) (l₂ := l₂) hf t, j + 1, b, h => by
    obtain ⟨a, h1, h2⟩ := paired_back t (j := j) (by simpa using h)
    exact ⟨a, by simpa using h1, h2⟩
theorem ints_at : ∀ (us : List Value) (ns : List Int), us.length = ns.length → (∀ (j : Nat) (u : Value), us[j]? = some u → ∃ (n : Int) (t : Tok), ns[j]? = some n ∧ u = .int n t) → IntsAre us ns
  | [], [], _, _ => .nil
  | [], _ :: _, h, _ => by cases h
  | _ :: _, [], h, _ => by cases h
  | u :: us, n :: ns, h, hu => by
    obtain ⟨m, t, e1, rfl⟩ := hu 0 u rfl
    cases e1
    exact .cons _ t (ints_at us ns (by simpa using h) fun j u' hj => hu (j + 1) u' hj)
theorem cr_sortD {X : Cx} (hc : X.calm = true) : CallR X (.builtin "sorted") rSortD := by
  intro pins s σ H vs us Q I r h
  obtain ⟨a, kvs, ns, rfl, ha, hk, q⟩ := h
  rw [Vals.ref1 r]
  obtain ⟨hz, ns0, vv, kv, dof⟩ := dk_of I.hok ha
  obtain ⟨ep, hat⟩ := dof.dictAt
  have hlen : vv.length = ns.length := by
    have := congrArg List.length hk
    rw [List.length_map, List.length_map] at this
    rw [← this]; exact kv.length.symm
  have hzz : vv.length ≤ sizeLine := by rw [show vv.length = kvs.length from kv.length.symm]; exact hz
  refine Calls.call_function_entry kind_sorted plain_sorted entry_sorted (args_sorted1 _) ?_
  unfold Builtin.«sorted»
  refine wpAny_bind (m := checkCount "sorted" 1 1 _) (wpAny_pure ?_)
  refine wpAny_bind (PySem.W.kdu_collect (PySem.W.kdl_dict (knd := mixKind X.prog X.w) (kvs := vv) (ep := ep) ns0) (I.ok.hd hc) hat hzz fun h' tk acc keep hacc => ?_)
  have hl : acc.toList.length = vv.length := by rw [Array.length_toList]; exact hacc.1
  have hkeys : ∀ (j : Nat) k x, vv[j]? = some (k, x) → ∃ n, ns[j]? = some n ∧ k = Sum.inl n := fun j k x hj => by
    obtain ⟨p, hp, e, _⟩ := paired_back kv hj
    have h2 : (kvs.map (·.1))[j]? = some k := by rw [List.getElem?_map, hp]; exact congrArg some e
    rw [hk, List.getElem?_map] at h2
    cases h3 : ns[j]? with
    | none => rw [h3] at h2; cases h2
    | some n => rw [h3] at h2; cases h2; exact ⟨n, rfl, rfl⟩
  have hi : IntsAre acc.toList ns := ints_at _ _ (by rw [hl, hlen]) fun j u hu => by
    obtain ⟨k, x, h1, h2⟩ := hacc.2 j u (by rw [← Array.getElem?_toList]; exact hu)
    obtain ⟨n, h3, rfl⟩ := hkeys j k x h1
    obtain ⟨t, rfl⟩ := Value.isInt_shape h2
    exact ⟨n, t, h3, rfl⟩
  have hza : acc.toList.length ≤ sizeLine := by rw [hl]; exact hzz
  refine wpAny_bind (wpAny_newList ?_ hza)
  have hoL : (h'.push (seqObj "list" acc.toList.toArray 0)).get? h'.objs.size = some (seqObj "list" acc.toList.toArray 0) := Heap.get?_push_size _ rfl
  refine wpAny_bind (wpAny_holding (wpAny_call_entry slot_list_sort ⟨_, hoL, rfl⟩ entry_list_sort (SrtO.list_sort_ord SrtO.swo_int hoL hza (fun h2 => SrtO.ints_sortable hi h2) fun out h1 h2 => ⟨_, rfl, ?_⟩) (args_list_sort _)))
  obtain ⟨k1, k2, k3⟩ := SrtO.ints_out hi h1 h2
  obtain ⟨ep2, he'⟩ := PyProof.Rows.sortedHeap_at (vs := acc.toList) (out := out.toArray) hoL
  have hlo : ((out.map SrtO.iv).map V.int).length ≤ sizeLine := by
    rw [List.length_map, k2.length_eq, ← hlen]
    exact hzz
  have hnone : s.heap.get? h'.objs.size = none := by
    cases e : s.heap.get? h'.objs.size with
    | none => rfl
    | some o => exact absurd (Heap.lt_size (keep _ _ e)) (Nat.lt_irrefl _)
  have hn := I.hok.gone hnone
  refine wpAny_pure ⟨_, rfl, ?_⟩
  exact ⟨.ref _, upd H h'.objs.size (.lst ((out.map SrtO.iv).map V.int)), I.laidN (t' := tk) (fun b o e => by
    have e2 := keep b o e
    have hlt := Heap.lt_size e2
    rw [PyProof.Rows.sortedHeap_old (Nat.ne_of_lt hlt) (by rw [size_push']; exact Nat.lt_succ_of_lt hlt)]
    exact Heap.get?_push_of_some _ e2) hnone hn ⟨hlo, out, ep2, vals_of_ints k1, he'⟩, rfl, q _ _ k2 k3 hn⟩
/-! ### a dict's comprehension over a list -/
theorem dc_list {K : PySem.W.Frag} {a : Addr} {xs : List V} {g : TG} {tt : TT} {tk tv : TE} {vs : List Nat} {σ : L2.St} {H1 : Hp} {D : Addr} {Qd : Hp → Prop} (Pv : Nat → Hp → Prop) (h0 : Pv 0 (upd H1 D (.dK []))) (hl : ∀ i H, i ≤ xs.length → Pv i H → SqL K H a xs)
    (hs : ∀ i x H, xs[i]? = some x → Pv i H → g x (wipe σ vs) H fun σ2 H2 => wipe σ2 vs = wipe σ vs ∧ tt σ2 H2 fun b H3 =>
      if b = true then tk σ2 H3 fun y H4 => tv σ2 H4 fun z H5 => ∃ kvs k, y = kV k ∧ H5 D = some (.dK kvs) ∧ kvs.length < sizeLine ∧ Pv (i + 1) (upd H5 D (.dK (putK kvs k z))) else Pv (i + 1) H3) (hd : ∀ H, Pv xs.length H → Qd H) :
    ∃ W : Nat → Nat → Hp → Prop, (∃ m, W 0 m (upd H1 D (.dK []))) ∧ ∀ i m H, W i m H →
      ((Itl K a).stop i H ∧ Qd H) ∨ ((Itl K a).go i H ∧ ∃ Nx : Hp → Prop, (∀ H', Nx H' → ∃ m', m' < m ∧ W (i + 1) m' H') ∧ ∀ x H', (Itl K a).yld i H x H' → g x (wipe σ vs) H' fun σ2 H2 => wipe σ2 vs = wipe σ vs ∧ tt σ2 H2 fun b H3 =>
        if b = true then tk σ2 H3 fun y H4 => tv σ2 H4 fun z H5 => ∃ kvs k, y = kV k ∧ H5 D = some (.dK kvs) ∧ kvs.length < sizeLine ∧ Nx (upd H5 D (.dK (putK kvs k z))) else Nx H3) := by
  refine ⟨fun i m H => m = xs.length - i ∧ i ≤ xs.length ∧ Pv i H, ⟨xs.length, by simp, Nat.zero_le _, h0⟩, ?_⟩
  rintro i m H ⟨rfl, hi, p⟩
  have q := hl i H hi p
  by_cases hlt : i < xs.length
  · refine .inr ⟨⟨xs, xs[i], q, by simp [hlt]⟩, Pv (i + 1), fun H' p' => ⟨xs.length - (i + 1), by omega, rfl, hlt, p'⟩, fun x H' y => ?_⟩
    obtain ⟨e, y⟩ := y
    subst e
    exact hs i x _ (y xs q) p
  · have e : i = xs.length := by omega
    subst e
    exact .inl ⟨⟨xs, q, Nat.le_refl _⟩, hd H p⟩
/-- the reading of a list or a tuple that is cut -/
abbrev rSlAny (K : PySem.W.Frag) : V → Option Int → Option Int → Hp → VK → Prop := fun x lo hi H Q => rSlL K x lo hi H Q ∨ L2.rSlA K x lo hi H Q
theorem sl_any {X : Cx} : SlR X (rSlAny X.K) := SlR.or sl_list sl_tupA
theorem cutA {K : PySem.W.Frag} {H : Hp} {q : Addr} {xs : List V} {Q : VK} {lo hi : Option Int} (h : SqL K H q xs ∨ SqT K H q xs) (k : ∀ (p : Addr) (H' : Hp), Same H H' → (H' p = some (.lst (cutV xs lo hi)) ∨ SqT K H' p (cutV xs lo hi)) → Q (.ref p) H') : rSlAny K (.ref q) lo hi H Q := by
  rcases h with h | h
  · exact .inl ⟨q, xs, rfl, h, fun a ha => k a _ (fun b o e => by rw [upd_ne (ne_of_none e ha)]; exact e) (.inl upd_same)⟩
  · refine .inr ⟨q, xs, rfl, h, fun w => k q H (Same.refl H) (.inr ?_), fun _ p hp => k p _ (fun b o e => by rw [upd_ne (ne_of_none e hp)]; exact e) (.inr (SqT.of upd_same))⟩
    have e : cutV xs lo hi = xs := by
      unfold cutV
      rw [w.1, w.2, List.drop_zero, Nat.sub_zero, List.take_length]
    rw [e]; exact h
abbrev rIxA (K : PySem.W.Frag) : R2 := fun x y H Q => rIxL K x y H Q ∨ rIxT K x y H Q
theorem ix_any {X : Cx} : IxR X (rIxA X.K) := IxR.or ix_list ix_tup
theorem dcomp {wi : TI} {g : TG} {tt : TT} {tk tv : TE} {vs : List Nat} {σ : L2.St} {H : Hp} {Q : VK} (h : wi σ H fun J H1 => ∀ D, H1 D = none → ∃ W : Nat → Nat → Hp → Prop, (∃ m, W 0 m (upd H1 D (.dK []))) ∧ ∀ i m H, W i m H →
  (J.stop i H ∧ Q (.ref D) H) ∨ (J.go i H ∧ ∃ Nx : Hp → Prop, (∀ H', Nx H' → ∃ m', m' < m ∧ W (i + 1) m' H') ∧ ∀ x H', J.yld i H x H' → g x (wipe σ vs) H' fun σ2 H2 => wipe σ2 vs = wipe σ vs ∧ tt σ2 H2 fun b H3 =>
    if b = true then tk σ2 H3 fun y H4 => tv σ2 H4 fun z H5 => ∃ kvs k, y = kV k ∧ H5 D = some (.dK kvs) ∧ kvs.length < sizeLine ∧ Nx (upd H5 D (.dK (putK kvs k z))) else Nx H3)) : tDc wi g tt tk tv vs σ H Q := h
theorem star {K : PySem.W.Frag} {te : TE} {t : TA} {σ : L2.St} {H : Hp} {Q : List V → Hp → Prop} (h : te σ H fun x H1 => ∃ p xs, x = V.ref p ∧ (SqT K H1 p xs ∨ SqL K H1 p xs) ∧ t σ H1 fun ys H2 => Q (xs ++ ys) H2) : StX.tStar K te t σ H Q := h
end WP

namespace WET
open PySem PySem.Spec PyProof.Rows L2
/-! ### enumerate(tuple) -/
theorem new_of {v : Value} {o : Obj} {Hh : Heap → Prop} (B : Begins v o Hh) :
    Meets (Builtin.«enumerate.__new__» ⟨[.type "enumerate", v], []⟩) (fun _ R s => Hh s.heap ∧
      R (.ok (.ret (.ref (s.heap.push o).objs.size))) { s with heap := (s.heap.push o).push { cls := .type "enumerate", data := .fields #[.none, .bool false, .ref s.heap.objs.size, rawInt 0, .none, .none] } }) :=
  .of_wp fun prog w A R s h => by
    obtain ⟨hp, g, d, tk, os⟩ := s
    obtain ⟨h1, h⟩ := h
    have sub := sub_enumerate
    have it1 : ∀ {A' : Around} {E : Value → Shared → Prop} {Q : Value → Shared → Prop}, Q (.ref hp.objs.size) ⟨hp.push o, g, d, tk, os⟩ → wpAny (model prog w) A' (pyIter v) Q E ⟨hp, g, d, tk, os⟩ :=
      fun q => B.iter prog w _ _ ⟨hp, g, d, tk, os⟩ _ h1 q
    wp_walk using it1
    refine wpAny_stack_any fun st => wpAny_pure ?_
    split
    · rename_i cc _ _ _ _ _
      cases (cc == Value.type "enumerate")
      · wp_walk using it1
        exact ⟨_, rfl, h⟩
      · wp_walk using it1
        exact ⟨_, rfl, h⟩
    · wp_walk using it1
      exact ⟨_, rfl, h⟩
theorem begin_of {prog : Program} {w : World} {A : Around} {E : Value → Shared → Prop} {s : Shared} {v : Value} {o : Obj} {Hh : Heap → Prop} {Q : Value → Shared → Prop} (B : Begins v o Hh) (h1 : Hh s.heap)
    (k : ∀ h', IsEnum h' (s.heap.objs.size + 1) s.heap.objs.size 0 .none → h'.get? s.heap.objs.size = some o → h'.objs.size = s.heap.objs.size + 2 →
      (∀ b u, s.heap.get? b = some u → h'.get? b = some u) → Q (.ref (s.heap.objs.size + 1)) { s with heap := h' }) :
    wpAny (model prog w) A (call (.type "enumerate") [v]) Q E s := by
  refine callType_new F.called_enumerate (by decide) (F.typeCall_enumerate_1 _) (F.newCall_enumerate_1 _) (fun obj => F.args_object_init_2 obj _) F.entry_enumerate_new (new_of B) ⟨h1, ?_⟩
  have hz : (s.heap.push o).objs.size = s.heap.objs.size + 1 := Heap.size_push ..
  show _ ∧ _
  rw [hz]
  have en : IsEnum ((s.heap.push o).push { cls := .type "enumerate", data := .fields #[.none, .bool false, .ref s.heap.objs.size, rawInt 0, .none, .none] }) (s.heap.objs.size + 1) s.heap.objs.size 0 .none := by
    have q := Heap.get?_push_size (s.heap.push o) (o := { cls := .type "enumerate", data := .fields #[.none, .bool false, .ref s.heap.objs.size, rawInt 0, .none, .none] }) rfl
    rw [hz] at q; exact q
  refine ⟨⟨_, en, rfl⟩, k _ en (Heap.get?_push_of_some _ (Heap.get?_push_size _ B.free)) (by rw [Heap.size_push, hz]) fun b u x => Heap.get?_push_of_some _ (Heap.get?_push_of_some _ x)⟩
def Itn (K : PySem.W.Frag) (a : Addr) : It where
  go := fun n G => ∃ (ys : List V) (y : V), SqT K G a ys ∧ ys[n]? = some y
  yld := fun n G v G' => ∃ N y, v = .ref N ∧ G N = none ∧ G' = upd G N (.tup [.int ((n : Nat) : Int), y]) ∧ ∀ ys, SqT K G a ys → ys[n]? = some y
  stop := fun n G => ∃ ys : List V, SqT K G a ys ∧ ys.length = n
theorem apart_t {h : Heap} {li l : Addr} {n : Nat} {vs : Array Value} (a : h.IsTupleIter li l n) (b : IsTup h l vs) : l ≠ li := fun z => by
  obtain ⟨u, hu, uc, _⟩ := a
  obtain ⟨o, ho, oc, _⟩ := b
  rw [z, hu] at ho
  cases ho
  rw [uc] at oc
  exact absurd oc (by decide)
theorem tup_is {h : Heap} {l : Addr} {vs : Array Value} (b : IsTup h l vs) : h.IsTuple l vs := b
theorem turn0 {P : Program} {w : World} {K : PySem.W.Frag} {els : List Expr} {kd : Nat} {tp : Pos} (a en li : Addr) (hne : a ≠ li) :
    Turn P w K (.Tuple els kd tp) (Itn K a) [en, li] en (fun n h => (∃ pr, IsEnum h en li ((n : Nat) : Int) pr) ∧ h.IsTupleIter li a n ∧ en ≠ li) where
  mem := List.mem_cons_self
  obj := fun n h ⟨⟨pr, hE⟩, ⟨u, hu, uc, ud⟩, _⟩ b hb => by
    have cs : b = en ∨ b = li := by simpa using hb
    rcases cs with rfl | rfl
    · exact ⟨_, hE, fun v q => nomatch q⟩
    · exact ⟨u, hu, fun v q => by rw [ud] at q; cases q⟩
  keep := fun n h h2 ⟨⟨pr, hE⟩, hI, ne⟩ kp => ⟨⟨pr, kp en List.mem_cons_self _ hE⟩, hI.at fun u q => kp li (by simp) u q, ne⟩
  item := by
    intro X h1 h2 h3 hc n pins s σ G E I free st hg
    subst h1 h2 h3
    obtain ⟨⟨pr, hE⟩, hI, ne⟩ := st
    obtain ⟨ys, y, sq, hy⟩ := hg
    obtain ⟨vs, rv, pl, sz⟩ := I.tuple sq
    obtain ⟨u, hu, ru⟩ := rv.get hy
    have le : en < s.heap.objs.size := Heap.lt_size hE
    have ll : li < s.heap.objs.size := by
      obtain ⟨_, q, _⟩ := hI
      exact Heap.lt_size q
    have D := Draws.tuple (prog := X.prog) (w := X.w) (A := X.A.in1) (I.ok.hd hc) li a hne vs.toArray
    have ne2 : en ≠ a := fun z => by
      obtain ⟨o, ho, oc, _⟩ := pl
      rw [← z, hE] at ho
      cases ho
      exact absurd (show Value.type "enumerate" = Value.type "tuple" from oc) (by decide)
    have lt : n < vs.toArray.size := by
      have := (List.getElem?_eq_some_iff.mp hu).1
      simpa using this
    refine wpAny_pyNext_enum_itemC D hE ⟨hI, tup_is pl⟩ lt ne (by simp [ne, ne2]) fun u' hp2 tk hu' ho hI2' hN hz hk => ?_
    obtain rfl : u = u' := by
      have : vs[n]? = some u' := by simpa using hu'
      rw [hu] at this
      exact Option.some.inj this
    have hI2 := hI2'.1
    refine ⟨_, rfl, wpAny_letOwnedTupleGo_enum (s := { s with heap := hp2, toks := tk + 1 }) ho fun hp3 hE3 sb => ?_⟩
    have nN : s.heap.objs.size ≠ en := Nat.ne_of_gt le
    have at3 : hp3.get? s.heap.objs.size = some { cls := .type "tuple", data := .seq #[.int ((n : Nat) : Int) tk, u] } := by rw [sb.2 _ nN]; exact hN
    have two : 2 ≤ sizeLine := by decide
    have okT : ObjOk X.prog X.w (upd G s.heap.objs.size (.tup [.int ((n : Nat) : Int), y])) hp3 s.heap.objs.size (.tup [.int ((n : Nat) : Int), y]) :=
      ⟨two, [.int ((n : Nat) : Int) tk, u], .cons ⟨_, rfl⟩ (.cons ru .nil), ⟨_, at3, rfl, _, rfl⟩⟩
    have J : Inv X pins σ (upd G s.heap.objs.size (.tup [.int ((n : Nat) : Int), y])) { s with heap := hp3, toks := tk + 1 } := by
      refine I.turnedNew (ch := [en, li]) (fun b ob hb q => ?_) free (Nat.le_refl _) okT
      have b1 : b ≠ en := fun z => hb (by simp [z])
      have b2 : b ≠ li := fun z => hb (by simp [z])
      rw [sb.2 b b1]
      exact hk b ob b1 b2 q
    refine ⟨.ref s.heap.objs.size, _, J, rfl, ⟨_, y, rfl, I.hok.fresh (Nat.le_refl _), rfl, fun zs hs => by rw [I.tuple_inj hs sq]; exact hy⟩, ⟨⟨u, ?_⟩, hI2.at fun ob q => by rw [sb.2 li (Ne.symm ne)]; exact q, ne⟩, fun b hb => ?_⟩
    · rw [show ((n + 1 : Nat) : Int) = ((n : Nat) : Int) + 1 by omega]
      exact hE3
    · have lb : b < s.heap.objs.size := by
        have cs : b = en ∨ b = li := by simpa using hb
        rcases cs with rfl | rfl
        · exact le
        · exact ll
      rw [upd_ne (Nat.ne_of_lt lb)]
      exact (free b hb).1
  done := by
    intro X h1 h2 h3 hc n pins s σ G E I free st hg
    subst h1 h2 h3
    obtain ⟨⟨pr, hE⟩, hI, ne⟩ := st
    obtain ⟨ys, sq, ln⟩ := hg
    obtain ⟨vs, rv, pl, sz⟩ := I.tuple sq
    obtain ⟨g0, g1, g2, g3, g4, g5⟩ := free li (by simp)
    have lv := rv.length
    obtain rfl : vs.toArray.size = n := by simp; omega
    exact wpAny_pyNext_enum_endD (Draws.tuple (prog := X.prog) (w := X.w) (A := X.A.in1) (I.ok.hd hc) li a hne vs.toArray) hE ⟨hI, tup_is pl⟩ fun hp2 same => ⟨rfl, I.turned (t' := s.toks) (fun b ob hb q => same b ob hb q) g0 g1 g3 g4 g5⟩
  self := fun A n s Q E ⟨⟨_, hE⟩, _⟩ h => wpAny_pyIter_enum hE h
def iEnumT (K : PySem.W.Frag) (ta : TA) : TI := fun σ G R => ta σ G fun vs G1 => ∃ a ys, vs = [.ref a] ∧ SqT K G1 a ys ∧ R (Itn K a) G1
theorem pi_enumT {X : Cx} {e : Expr} {ta : TA} {p ps tp : Pos} {els : List Expr} {kd : Nat} (hg : Gl X "enumerate") (hm : X.mg "enumerate" = none) (ha : PA X [e] ta) (hs : starEach [e] X.env = [(false, eval e X.env)] := by rfl) :
    PI X (.Tuple els kd tp) (.Call (.Name "enumerate" p) [e] [] ps) (iEnumT X.K ta) := by
  refine ⟨fun pins s σ G R I h => ?_⟩
  refine Call_ (ld_blt I hg hm boot_enumerate (PyProof.Rows.callWith_type1 (thn (ha.run ps pins s σ G _ I h) fun us s1 ⟨vs, G1, I1, r1, q1⟩ => ?_) hs rfl))
  obtain ⟨a, ys, ev, sq, k⟩ := q1
  subst ev
  cases r1 with
  | cons r rr =>
    cases rr
    cases r
    obtain ⟨vs, rv, pl, sz⟩ := I1.tuple sq
    refine begin_of (begins_tuple a vs.toArray) (tup_is pl) fun hp2 hE hLi hz kp => wpAny_pyIter_enum hE ?_
    have J : Inv X pins σ G1 { s1 with heap := hp2 } := I1.kept (t' := s1.toks) kp
    have lit : hp2.IsTupleIter s1.heap.objs.size a 0 := ⟨_, hLi, rfl, rfl⟩
    have na : a ≠ s1.heap.objs.size := by
      obtain ⟨o, ho, _⟩ := pl
      exact Nat.ne_of_lt (Heap.lt_size ho)
    refine ⟨s1.heap.objs.size + 1, [s1.heap.objs.size + 1, s1.heap.objs.size], _, _, G1, rfl, J, turn0 a (s1.heap.objs.size + 1) s1.heap.objs.size na, ⟨⟨.none, hE⟩, lit, Nat.succ_ne_self _⟩, fun b hb => ?_, k⟩
    have cs : b = s1.heap.objs.size + 1 ∨ b = s1.heap.objs.size := by simpa using hb
    have le : s1.heap.objs.size ≤ b := by
      rcases cs with z | z
      · rw [z]; exact Nat.le_succ _
      · exact Nat.le_of_eq z.symm
    exact I1.fpOk le (I1.hok.fresh le)
/-- for n, x in enumerate(a tuple) -/
theorem for_enumT {K : PySem.W.Frag} {a : Addr} {ys : List V} {g : TG} {tb : TS} {D : Ends} {σ : L2.St} {G : Hp} (Pv : Nat → L2.St → Hp → Prop) (h0 : Pv 0 σ G) (hq : ∀ i σ G, i ≤ ys.length → Pv i σ G → SqT K G a ys)
    (hs : ∀ i y σ G N, ys[i]? = some y → G N = none → Pv i σ G → g (.ref N) σ (upd G N (.tup [.int ((i : Nat) : Int), y])) fun σ2 G2 => tb { D with nx := Pv (i + 1), ct := Pv (i + 1), bk := D.nx } σ2 G2) (hd : ∀ σ G, Pv ys.length σ G → D.nx σ G) :
    ∃ W : Nat → Nat → L2.St → Hp → Prop, (∃ m, W 0 m σ G) ∧ ∀ i m σ G, W i m σ G →
      ((Itn K a).stop i G ∧ D.nx σ G) ∨ ((Itn K a).go i G ∧ ∃ N : L2.St → Hp → Prop, (∀ σ' G', N σ' G' → ∃ m', m' < m ∧ W (i + 1) m' σ' G') ∧ ∀ x G', (Itn K a).yld i G x G' → g x σ G' fun σ2 G2 => tb { D with nx := N, ct := N, bk := D.nx } σ2 G2) := by
  refine ⟨fun i m σ G => i ≤ ys.length ∧ m = ys.length - i ∧ Pv i σ G, ⟨_, Nat.zero_le _, rfl, h0⟩, fun i m σ G hw => ?_⟩
  obtain ⟨le, rfl, pv⟩ := hw
  have sq := hq i σ G le pv
  rcases Nat.lt_or_ge i ys.length with lt | ge
  · have hy := List.getElem?_eq_getElem lt
    refine .inr ⟨⟨ys, _, sq, hy⟩, Pv (i + 1), fun σ' G' n => ⟨_, by omega, lt, rfl, n⟩, ?_⟩
    rintro x G' ⟨N, y, rfl, gn, rfl, al⟩
    exact hs i y σ G N (al ys sq) gn pv
  · have e : i = ys.length := by omega
    subst e
    exact .inl ⟨⟨ys, sq, rfl⟩, hd σ G pv⟩
end WET
namespace WP
open PySem PySem.Spec PyProof.Rows L2
theorem enumT {K : PySem.W.Frag} {ta : TA} {σ : L2.St} {G : Hp} {R : It → Hp → Prop} (h : ta σ G fun vs G1 => ∃ a ys, vs = [.ref a] ∧ SqT K G1 a ys ∧ R (WET.Itn K a) G1) : WET.iEnumT K ta σ G R := h
end WP

namespace WP
open PySem PySem.Spec PyProof.Rows L2
/-! ### a module's dict of tuples of texts -/
structure KDt (K : PySem.W.Frag) (w : World) (mg : MG) (nm : Str) (l : List (List Nat × List (List Nat))) : Prop where
  m : mg nm = some (.ref (ca mg nm))
  s : ∀ p ∈ l, ∃ A, KDct K w (ca mg nm) (SX.S p.1) (.ref A) ∧ ∀ H, SqT K H A (p.2.map fun a => V.str (SX.S a))
theorem KDt.mk' {K : PySem.W.Frag} {w : World} {mg : MG} {nm : Str} {C : Addr} {l : List (List Nat × List (List Nat))} (h : mg nm = some (.ref C)) (x : ∀ p ∈ l, ∃ A, KDct K w C (SX.S p.1) (.ref A) ∧ ∀ H, SqT K H A (p.2.map fun a => V.str (SX.S a))) : KDt K w mg nm l := by
  have e := ca_of h
  exact ⟨by rw [e]; exact h, by rw [e]; exact x⟩
theorem kdt_cons {K : PySem.W.Frag} {w : World} {C A : Addr} {k : List Nat} {v : List (List Nat)} {l : List (List Nat × List (List Nat))} (h : KDct K w C (SX.S k) (.ref A)) (h2 : ∀ H, SqT K H A (v.map fun a => V.str (SX.S a))) (t : ∀ p ∈ l, ∃ A, KDct K w C (SX.S p.1) (.ref A) ∧ ∀ H, SqT K H A (p.2.map fun a => V.str (SX.S a))) :
    ∀ p ∈ (k, v) :: l, ∃ A, KDct K w C (SX.S p.1) (.ref A) ∧ ∀ H, SqT K H A (p.2.map fun a => V.str (SX.S a)) := fun p hp => by
  rcases List.mem_cons.mp hp with e | e
  · subst e; exact ⟨A, h, h2⟩
  · exact t p e
theorem pe_kdt {X : Cx} {x : Str} {xs : List (List Nat × List (List Nat))} {pos : Pos} (hg : Gl X x) (h : KDt X.K X.w X.mg x xs) (hd : (x == ("__debug__" : Str)) = false := by decide) : PE X (.Name x pos) (tC (.ref (ca X.mg x))) := pe_glob hg h.m rfl hd
theorem ixKt {K : PySem.W.Frag} {w : World} {H : Hp} {Q : VK} {nm : Str} {mg : MG} {ls : List (List Nat × List (List Nat))} {k : List Nat} {v : List (List Nat)} (h : KDt K w mg nm ls) (m : (k, v) ∈ ls) (q : ∀ A, (∀ H, SqT K H A (v.map fun a => V.str (SX.S a))) → Q (.ref A) H) : rIxD K w (.ref (ca mg nm)) (.str (SX.S k)) H Q := by
  obtain ⟨A, h1, h2⟩ := h.s _ m
  exact ⟨_, _, _, rfl, rfl, h1, q A h2⟩
/-! ### a walk over what may be a list or a tuple -/
def iAny (K : PySem.W.Frag) (tl : TE) : TI := fun σ H R => tl σ H fun x H1 => ∃ a, x = .ref a ∧ (((∃ xs, SqL K H1 a xs) ∧ R (Itl K a) H1) ∨ ((∃ xs, SqT K H1 a xs) ∧ R (Itt K a) H1))
theorem pi_any {X : Cx} {tg l : Expr} {tl : TE} (hl : PE X l tl) : PI X tg l (iAny X.K tl) := by
  refine ⟨fun pins s σ H R I h => ?_⟩
  refine thn (hl.run pins s σ H _ I h) fun v s1 q => ?_
  obtain ⟨x, H1, I1, r1, a, rfl, q⟩ := q
  cases r1
  have f0 : ∀ b ∈ [s1.heap.objs.size], FpOk X pins H1 b := fun b hb => by
    obtain rfl : b = s1.heap.objs.size := by simpa using hb
    exact I1.fpOk (Nat.le_refl _) (I1.hok.fresh (Nat.le_refl _))
  rcases q with ⟨⟨xs, hq⟩, q⟩ | ⟨⟨xs, hq⟩, q⟩
  · obtain ⟨its, rv, p, hz⟩ := I1.list hq
    exact wpAny_pyIter_list p.isList ⟨_, _, _, _, H1, rfl, I1.kept (t' := s1.toks) fun b o e => Heap.get?_push_of_some _ e, turn_list a _, ⟨_, Heap.get?_push_size _ rfl, rfl, rfl⟩, f0, q⟩
  · obtain ⟨its, rv, p, hz⟩ := I1.tuple hq
    exact wpAny_pyIter_tuple (show s1.heap.IsTuple a its.toArray from p) ⟨_, _, _, _, H1, rfl, I1.kept (t' := s1.toks) fun b o e => Heap.get?_push_of_some _ e, turn_tuple a _, ⟨_, Heap.get?_push_size _ rfl, rfl, rfl⟩, f0, q⟩
def SqA (K : PySem.W.Frag) (H : Hp) (a : Addr) (xs : List V) : Prop := SqL K H a xs ∨ SqT K H a xs
theorem SqA.same {K : PySem.W.Frag} {H H' : Hp} {a : Addr} {xs : List V} (e : Same H H') (h : SqA K H a xs) : SqA K H' a xs := h.imp (sql e) (sqt e)
theorem walkA {K : PySem.W.Frag} {tl : TE} {σ : L2.St} {H : Hp} {R : It → Hp → Prop} (h : tl σ H fun x H1 => ∃ a, x = .ref a ∧ (((∃ xs, SqL K H1 a xs) ∧ R (Itl K a) H1) ∨ ((∃ xs, SqT K H1 a xs) ∧ R (Itt K a) H1))) : iAny K tl σ H R := h
/-- for x in a list or a tuple that stays -/
theorem for_seq {K : PySem.W.Frag} {a : Addr} {xs : List V} {g : TG} {tb : TS} {D : Ends} {σ : L2.St} {H0 H : Hp} (hs : SqA K H0 a xs) (Pv : Nat → L2.St → Hp → Prop) (h0 : Pv 0 σ H) (hk : ∀ i σ' H', i ≤ xs.length → Pv i σ' H' → Same H0 H')
    (ht : ∀ (i : Nat) x σ' H', xs[i]? = some x → Pv i σ' H' → g x σ' H' fun σ2 H2 => tb { D with nx := Pv (i + 1), ct := Pv (i + 1), bk := D.nx } σ2 H2) (hd : ∀ σ' H', Pv xs.length σ' H' → D.nx σ' H') :
    ∃ a', V.ref a = .ref a' ∧ (((∃ xs, SqL K H a' xs) ∧ ∃ W : Nat → Nat → L2.St → Hp → Prop, (∃ m, W 0 m σ H) ∧ ∀ i m σ H, W i m σ H →
      ((Itl K a').stop i H ∧ D.nx σ H) ∨ ((Itl K a').go i H ∧ ∃ N : L2.St → Hp → Prop, (∀ σ' H', N σ' H' → ∃ m', m' < m ∧ W (i + 1) m' σ' H') ∧ ∀ x H', (Itl K a').yld i H x H' → g x σ H' fun σ2 H2 => tb { D with nx := N, ct := N, bk := D.nx } σ2 H2)) ∨
      ((∃ xs, SqT K H a' xs) ∧ ∃ W : Nat → Nat → L2.St → Hp → Prop, (∃ m, W 0 m σ H) ∧ ∀ i m σ H, W i m σ H →
      ((Itt K a').stop i H ∧ D.nx σ H) ∨ ((Itt K a').go i H ∧ ∃ N : L2.St → Hp → Prop, (∀ σ' H', N σ' H' → ∃ m', m' < m ∧ W (i + 1) m' σ' H') ∧ ∀ x H', (Itt K a').yld i H x H' → g x σ H' fun σ2 H2 => tb { D with nx := N, ct := N, bk := D.nx } σ2 H2))) := by
  refine ⟨a, rfl, ?_⟩
  rcases hs with hs | hs
  · exact .inl ⟨⟨xs, sql (hk 0 σ H (Nat.zero_le _) h0) hs⟩, for_list Pv h0 (fun i σ' H2 hi p => sql (hk i σ' H2 hi p) hs) ht hd⟩
  · exact .inr ⟨⟨xs, sqt (hk 0 σ H (Nat.zero_le _) h0) hs⟩, for_tup Pv h0 (fun i σ' H2 hi p => sqt (hk i σ' H2 hi p) hs) ht hd⟩
/-! ### a loop over zip of two tuples of one length -/
theorem for_zipT {K : PySem.W.Frag} {a b : Addr} {xs ys : List V} {g : TG} {tb : TS} {D : Ends} {σ : L2.St} {H : Hp} (hl : xs.length = ys.length) (Pv : Nat → L2.St → Hp → Prop) (h0 : Pv 0 σ H) (hq : ∀ i σ H, Pv i σ H → SqT K H a xs ∧ SqT K H b ys)
    (hs : ∀ (i : Nat) (x y : V) (T : Addr) (σ : L2.St) (H : Hp), xs[i]? = some x → ys[i]? = some y → Pv i σ H → H T = none → g (.ref T) σ (upd H T (.tup [x, y])) fun σ2 H2 => tb { D with nx := Pv (i + 1), ct := Pv (i + 1), bk := D.nx } σ2 H2) (hd : ∀ σ H, Pv xs.length σ H → D.nx σ H) :
    ∃ W : Nat → Nat → L2.St → Hp → Prop, (∃ m, W 0 m σ H) ∧ ∀ i m σ H, W i m σ H →
      ((RZ.ItzT K a b).stop i H ∧ D.nx σ H) ∨ ((RZ.ItzT K a b).go i H ∧ ∃ N : L2.St → Hp → Prop, (∀ σ' H', N σ' H' → ∃ m', m' < m ∧ W (i + 1) m' σ' H') ∧ ∀ v H', (RZ.ItzT K a b).yld i H v H' → g v σ H' fun σ2 H2 => tb { D with nx := N, ct := N, bk := D.nx } σ2 H2) := by
  refine ⟨fun i m σ H => i + m = xs.length ∧ Pv i σ H, ⟨_, Nat.zero_add _, h0⟩, fun i m σ H w => ?_⟩
  obtain ⟨e, p⟩ := w
  obtain ⟨qx, qy⟩ := hq i σ H p
  cases m with
  | zero =>
    obtain rfl : i = xs.length := e
    exact .inl ⟨⟨xs, ys, qx, qy, .inl (Nat.le_refl _)⟩, hd σ H p⟩
  | succ m =>
    have ex := List.getElem?_eq_getElem (show i < xs.length by omega)
    have ey := List.getElem?_eq_getElem (show i < ys.length by omega)
    refine .inr ⟨⟨xs, ys, _, _, qx, qy, ex, ey⟩, Pv (i + 1), fun σ' H' n => ⟨m, Nat.lt_succ_self m, by omega, n⟩, ?_⟩
    rintro v H' ⟨T, x, y, rfl, hT, rfl, a1, a2⟩
    exact hs i x y T σ H (a1 xs qx) (a2 ys qy) p hT
theorem zipA {K : PySem.W.Frag} {ta : TA} {σ : L2.St} {H : Hp} {R : It → Hp → Prop} (h : ta σ H fun vs H1 => ∃ a b xs ys, vs = [.ref a, .ref b] ∧ ((SqL K H1 a xs ∧ SqL K H1 b ys ∧ R (Itz K a b) H1) ∨ (SqT K H1 a xs ∧ SqT K H1 b ys ∧ R (RZ.ItzT K a b) H1))) : RZ.iZipA K ta σ H R := h
/-! ### a dict's comprehension over enumerate of a tuple -/
theorem dc_enumT {K : PySem.W.Frag} {a : Addr} {ys : List V} {g : TG} {tt : TT} {tk tv : TE} {vs : List Nat} {σ : L2.St} {H1 : Hp} {D : Addr} {Qd : Hp → Prop} (Pv : Nat → Hp → Prop) (h0 : Pv 0 (upd H1 D (.dK []))) (hl : ∀ i H, i ≤ ys.length → Pv i H → SqT K H a ys)
    (hs : ∀ (i : Nat) y H N, ys[i]? = some y → H N = none → Pv i H → g (.ref N) (wipe σ vs) (upd H N (.tup [.int ((i : Nat) : Int), y])) fun σ2 H2 => wipe σ2 vs = wipe σ vs ∧ tt σ2 H2 fun b H3 =>
      if b = true then tk σ2 H3 fun y H4 => tv σ2 H4 fun z H5 => ∃ kvs k, y = kV k ∧ H5 D = some (.dK kvs) ∧ kvs.length < sizeLine ∧ Pv (i + 1) (upd H5 D (.dK (putK kvs k z))) else Pv (i + 1) H3) (hd : ∀ H, Pv ys.length H → Qd H) :
    ∃ W : Nat → Nat → Hp → Prop, (∃ m, W 0 m (upd H1 D (.dK []))) ∧ ∀ i m H, W i m H →
      ((WET.Itn K a).stop i H ∧ Qd H) ∨ ((WET.Itn K a).go i H ∧ ∃ Nx : Hp → Prop, (∀ H', Nx H' → ∃ m', m' < m ∧ W (i + 1) m' H') ∧ ∀ x H', (WET.Itn K a).yld i H x H' → g x (wipe σ vs) H' fun σ2 H2 => wipe σ2 vs = wipe σ vs ∧ tt σ2 H2 fun b H3 =>
        if b = true then tk σ2 H3 fun y H4 => tv σ2 H4 fun z H5 => ∃ kvs k, y = kV k ∧ H5 D = some (.dK kvs) ∧ kvs.length < sizeLine ∧ Nx (upd H5 D (.dK (putK kvs k z))) else Nx H3) := by
  refine ⟨fun i m H => i + m = ys.length ∧ Pv i H, ⟨_, Nat.zero_add _, h0⟩, fun i m H w => ?_⟩
  obtain ⟨e, p⟩ := w
  have q := hl i H (by omega) p
  cases m with
  | zero =>
    obtain rfl : i = ys.length := e
    exact .inl ⟨⟨ys, q, rfl⟩, hd H p⟩
  | succ m =>
    have ey := List.getElem?_eq_getElem (show i < ys.length by omega)
    refine .inr ⟨⟨ys, _, q, ey⟩, Pv (i + 1), fun H' n => ⟨m, Nat.lt_succ_self m, by omega, n⟩, ?_⟩
    rintro x H' ⟨N, y, rfl, hN, rfl, al⟩
    exact hs i y H N (al ys q) hN p
end WP
namespace WP
open PySem PySem.Spec PyProof.Rows L2
theorem cut1 {x : V} {xs : List V} : cutV (x :: xs) (some 1) none = xs := by
  unfold cutV
  rw [show HT.sIx (x :: xs).length 0 (some 1) = 1 from by rw [show (some (1 : Int)) = some ((1 : Nat) : Int) from rfl, HT.sIx_nat, List.length_cons]; omega, HT.sIx_none, List.drop_succ_cons, List.drop_zero, List.take_of_length_le (by rw [List.length_cons]; omega)]
theorem not_whole1 {x : V} {xs : List V} {hi : Option Int} : ¬ (HT.sIx (x :: xs).length 0 (some 1) = 0 ∧ HT.sIx (x :: xs).length (x :: xs).length hi = (x :: xs).length) := fun z => by
  have := z.1
  rw [show (some (1 : Int)) = some ((1 : Nat) : Int) from rfl, HT.sIx_nat, List.length_cons] at this
  omega
end WP
namespace WP
open PySem PySem.Spec PyProof.Rows L2
/-! ### a method of a built-in type in a comprehension's block -/
section
variable {X : Cx} {K : PySem.W.Frag} {T name id : String} {r : V → List V → Hp → VK → Prop} {o e : Expr} {es : List Expr} {to : TE} {t : TA} {apos cpos : Pos}
theorem pe_bmK (h : X.K = K) (pa : PlainAttrs T) (slot : Slot T name id) (hty : typeOf (.builtin id) = pure (.type "method_descriptor")) (hm : MtR X id r) (ho : PE X o to) (ha : PA X (e :: es) t)
    (hbase : attributeBase o name X.env (eval o X.env) = eval o X.env := by rfl)
    (hfew : ((backTo cpos (starEach (e :: es) X.env)).all (fun x => !x.1) && (backToKw cpos (keywordEach [] X.env)).all (fun x => x.1.isSome) && decide ((e :: es).length + ([] : List Keyword).length + (if ([] : List Keyword).isEmpty then 0 else 1) < 30)) = true := by rfl)
    (hline : (apos.endLine == cpos.line) = true := by rfl) (hs : starEach (e :: es) X.env = (false, eval e X.env) :: starEach es X.env := by rfl) (hplain : (backTo cpos (starEach es X.env)).any (·.1) = false := by rfl) :
    PE X (.Call (.Attribute o name apos) (e :: es) [] cpos) (tBM K T r to t) := by
  subst h
  exact pe_bm pa slot hty hm ho ha hbase hfew hline hs hplain
theorem mt_indexK (h : X.K = K) : MtR X "list.index" (rIndex K) := by subst h; exact mt_index
end
end WP

namespace ML
open PySem PySem.Spec PyProof.Rows L2
abbrev Tx := List Nat
/-! ### entries -/
inductive Val where
  | non
  | txt (t : Tx)
  | dec (u : Int) (s : Nat)
deriving DecidableEq
structure Row where
  lv : Nat
  nm : Tx
  pc : Option MR.Res
  tm : Nat
  vl : Val
def PicV (K : PySem.W.Frag) (H : Hp) (v : V) : Option MR.Res → Prop
  | none => v = .non
  | some r => ∃ p, v = .ref p ∧ SqT K H p r.vs
def ValV (K : PySem.W.Frag) (H : Hp) (v : V) : Val → Prop
  | .non => v = .non
  | .txt t => v = .str (SX.S t)
  | .dec u s => ∃ p, v = .ref p ∧ SqT K H p (WP.dv u s)
theorem PicV.keep {K : PySem.W.Frag} {H H' : Hp} {v : V} {p : Option MR.Res} (k : ∀ b us, SqT K H b us → SqT K H' b us) (h : PicV K H v p) : PicV K H' v p := by
  cases p with
  | none => exact h
  | some r => obtain ⟨a, e, g⟩ := h; exact ⟨a, e, k _ _ g⟩
theorem ValV.keep {K : PySem.W.Frag} {H H' : Hp} {v : V} {p : Val} (k : ∀ b us, SqT K H b us → SqT K H' b us) (h : ValV K H v p) : ValV K H' v p := by
  cases p with
  | non => exact h
  | txt t => exact h
  | dec u s => obtain ⟨a, e, g⟩ := h; exact ⟨a, e, k _ _ g⟩
/-- the entry at v -/
def RowAt (K : PySem.W.Frag) (H : Hp) (v : V) (r : Row) : Prop := ∃ a pv vv, v = .ref a ∧ SqT K H a [.int (r.lv : Int), .str (SX.S r.nm), pv, .int (r.tm : Int), vv] ∧ PicV K H pv r.pc ∧ ValV K H vv r.vl
theorem RowAt.keep {K : PySem.W.Frag} {H H' : Hp} {v : V} {r : Row} (k : ∀ b us, SqT K H b us → SqT K H' b us) (h : RowAt K H v r) : RowAt K H' v r := by
  obtain ⟨a, pv, vv, e, g, h1, h2⟩ := h
  exact ⟨a, pv, vv, e, k _ _ g, h1.keep k, h2.keep k⟩
/-- values in a relation, one by one -/
def All2 {α : Type} (R : V → α → Prop) (vs : List V) (rs : List α) : Prop := vs.length = rs.length ∧ ∀ (i : Nat) v r, vs[i]? = some v → rs[i]? = some r → R v r
theorem All2.nil {α : Type} {R : V → α → Prop} : All2 R [] [] := ⟨rfl, fun i v r h _ => by simp at h⟩
theorem All2.mono {α : Type} {R S : V → α → Prop} {vs : List V} {rs : List α} (h : All2 R vs rs) (k : ∀ v r, R v r → S v r) : All2 S vs rs := ⟨h.1, fun i v r a b => k v r (h.2 i v r a b)⟩
theorem All2.app {α : Type} {R : V → α → Prop} {vs us : List V} {rs qs : List α} (a : All2 R vs rs) (b : All2 R us qs) : All2 R (vs ++ us) (rs ++ qs) := by
  refine ⟨by rw [List.length_append, List.length_append, a.1, b.1], fun i v q hv hq => ?_⟩
  have l := a.1
  rcases Nat.lt_or_ge i vs.length with h | h
  · rw [List.getElem?_append_left h] at hv
    rw [List.getElem?_append_left (by omega)] at hq
    exact a.2 i v q hv hq
  · rw [List.getElem?_append_right h] at hv
    rw [List.getElem?_append_right (by omega), ← l] at hq
    exact b.2 _ v q hv hq
theorem All2.one {α : Type} {R : V → α → Prop} {v : V} {r : α} (h : R v r) : All2 R [v] [r] := ⟨rfl, fun i u q hu hq => by
  cases i with
  | zero => cases hu; cases hq; exact h
  | succ i => simp at hu⟩
theorem All2.get {α : Type} {R : V → α → Prop} {vs : List V} {rs : List α} (h : All2 R vs rs) {i : Nat} {v : V} (hv : vs[i]? = some v) : ∃ r, rs[i]? = some r ∧ R v r := by
  have l := (List.getElem?_eq_some_iff.mp hv).1
  have e := List.getElem?_eq_getElem (l := rs) (i := i) (by rw [← h.1]; exact l)
  exact ⟨_, e, h.2 i v _ hv e⟩
theorem All2.at {α : Type} {R : V → α → Prop} {vs : List V} {rs : List α} (h : All2 R vs rs) {i : Nat} {r : α} (hr : rs[i]? = some r) : ∃ v, vs[i]? = some v ∧ R v r := by
  have l := (List.getElem?_eq_some_iff.mp hr).1
  have e := List.getElem?_eq_getElem (l := vs) (i := i) (by rw [h.1]; exact l)
  exact ⟨_, e, h.2 i _ r e hr⟩
theorem All2.take {α : Type} {R : V → α → Prop} {vs : List V} {rs : List α} (h : All2 R vs rs) (n : Nat) : All2 R (vs.take n) (rs.take n) := by
  refine ⟨by rw [List.length_take, List.length_take, h.1], fun i v r hv hr => ?_⟩
  rw [List.getElem?_take] at hv hr
  by_cases c : i < n
  · rw [if_pos c] at hv hr; exact h.2 i v r hv hr
  · rw [if_neg c] at hv; cases hv
theorem All2.drop {α : Type} {R : V → α → Prop} {vs : List V} {rs : List α} (h : All2 R vs rs) (n : Nat) : All2 R (vs.drop n) (rs.drop n) := by
  refine ⟨by rw [List.length_drop, List.length_drop, h.1], fun i v r hv hr => ?_⟩
  rw [List.getElem?_drop] at hv hr
  exact h.2 _ v r hv hr
/-- entries at values -/
abbrev RwA (K : PySem.W.Frag) (H : Hp) (vs : List V) (rs : List Row) : Prop := All2 (RowAt K H) vs rs
theorem RwA.keep {K : PySem.W.Frag} {H H' : Hp} {vs : List V} {rs : List Row} (k : ∀ b us, SqT K H b us → SqT K H' b us) (h : RwA K H vs rs) : RwA K H' vs rs := h.mono fun _ _ z => z.keep k
/-! ### what is wrong with an entry -/
def LEVEL : Tx := [108, 101, 118, 101, 108]
def NAME : Tx := [110, 97, 109, 101]
def OCCURS : Tx := [111, 99, 99, 117, 114, 115]
def VALUE : Tx := [118, 97, 108, 117, 101]
def GROUP : Tx := [103, 114, 111, 117, 112]
def SIZE : Tx := [115, 105, 122, 101]
def below (lv : Nat) (p : List Row) : List Row := p.filter fun o => decide (o.lv < lv)
def right (lv : Nat) (p : List Row) : Bool := match p.getLast? with
  | none => decide (lv = 1)
  | some o => decide (lv > o.lv) || decide (lv ∈ p.map (·.lv))
def dims (p : List Row) : Nat := (p.filter fun o => decide (0 < o.tm)).length
def vsuits : MR.Res → Val → Bool
  | _, .non => true
  | .txt n, .txt t => decide (t.length ≤ n)
  | .txt _, .dec _ _ => false
  | .pic _, .txt _ => false
  | .pic p, .dec u s => decide (s ≤ p.fr) && decide (MP.Suits p (u * 10 ^ (p.fr - s)))
def badVal : Option MR.Res → Val → Bool
  | _, .non => false
  | none, _ => true
  | some p, v => !vsuits p v
/-- the reason, the empty text if there is none -/
def fault (names : List Tx) (p : List Row) (r : Row) (nl : Nat) : Tx :=
  if right r.lv p = false then LEVEL
  else if r.nm ∈ names then NAME
  else if 0 < r.tm ∧ (below r.lv p = [] ∨ dims (below r.lv p) = 2) then OCCURS
  else if badVal r.pc r.vl = true then VALUE
  else if decide (r.lv < nl) = r.pc.isSome then GROUP
  else []
end ML
namespace ML
open PySem PySem.Spec PyProof.Rows L2
theorem dims_snoc (p : List Row) (r : Row) : dims (p ++ [r]) = dims p + (if 0 < r.tm then 1 else 0) := by
  unfold dims
  rw [List.filter_append, List.length_append]
  by_cases c : 0 < r.tm
  · simp [c]
  · simp [c]
theorem at_last {α : Type} (l : List α) (x : α) (h : l.getLast? = some x) : atI l (-1) = some x := by
  obtain ⟨ys, rfl⟩ := List.getLast?_eq_some_iff.mp h
  exact atI_last ys x
theorem RwA.last {K : PySem.W.Frag} {H : Hp} {vs : List V} {rs : List Row} (h : RwA K H vs rs) {r : Row} (e : rs.getLast? = some r) : ∃ v, vs.getLast? = some v ∧ RowAt K H v r := by
  have hl := h.1
  rw [List.getLast?_eq_getElem?] at e
  obtain ⟨v, hv, k⟩ := h.at e
  exact ⟨v, by rw [List.getLast?_eq_getElem?, hl]; exact hv, k⟩
end ML
namespace ML
open PySem PySem.Spec PyProof.Rows L2
/-! ### items -/
def isz : Option MR.Res → Nat
  | none => 0
  | some x => MR.sizT x
/-- the fields of an item -/
def flds (r : Row) (pz vz : V) (par : Tx) (off sz : Nat) (c : Addr) : List (Str × V) :=
  [("name", .str (SX.S r.nm)), ("picture", pz), ("times", .int (r.tm : Int)), ("value", vz), ("parent", .str (SX.S par)), ("offset", .int (off : Int)), ("size", .int (sz : Int)), ("children", .ref c)]
end ML

namespace WP
open PySem PySem.Spec PyProof.Rows L2
/-! ### list(d.values()) -/
def tListVals (te : TE) : TE := fun σ H Q => te σ H fun x H1 => ∃ (d : Addr) (kvs : List (Key × V)), x = .ref d ∧ H1 d = some (.dK kvs) ∧ ∀ p, H1 p = none → Q (.ref p) (upd H1 p (.lst (kvs.map (·.2))))
theorem kv_vals {K : Type} : ∀ {kvs : List (Key × V)} {vs : List (Key × Value)} {us : List Value}, KV kvs vs → us.length = vs.length → (∀ (j : Nat) (u : Value), us[j]? = some u → ∃ k, vs[j]? = some (k, u)) → Vals (kvs.map (·.2)) us
  | _, _, [], .nil, _, _ => .nil
  | _, _, _ :: _, .nil, h, _ => by cases h
  | _, _, [], .cons _ _, h, _ => by cases h
  | _, _, u :: us, .cons r t, h, hu => by
    obtain ⟨k, hk⟩ := hu 0 u rfl
    cases hk
    refine .cons r.2 (kv_vals (K := K) t (by simpa using h) fun j u' hj => ?_)
    obtain ⟨k', hk'⟩ := hu (j + 1) u' hj
    exact ⟨k', by simpa using hk'⟩
theorem pe_listVals {X : Cx} {e : Expr} {te : TE} {p apos cpos pos : Pos} (hc : X.calm = true) (he : PE X e te) (hg : Gl X "list") (hm : X.mg "list" = none) (hv : bootBuiltins "list" = some (.type "list")) (hbase : attributeBase e "values" X.env (eval e X.env) = eval e X.env := by rfl) (hline : (apos.endLine == cpos.line) = true := by rfl)
    (hs : starEach [.Call (.Attribute e "values" apos) [] [] cpos] X.env = (false, eval (.Call (.Attribute e "values" apos) [] [] cpos) X.env) :: starEach [] X.env := by rfl) :
    PE X (.Call (.Name "list" p) [.Call (.Attribute e "values" apos) [] [] cpos] [] pos) (tListVals te) := by
  refine ⟨fun pins s σ H Q I hq => ?_⟩
  refine wpAny_Call_Name_kw (ld_blt I hg hm hv ?_)
  refine PyProof.Rows.callWith_type1 ?_ hs rfl
  rw [hs]
  refine Calls.spliced_cons ?_
  refine wpAny_Call_method (T := "dict") (id := "dict.values") hbase rfl hline F.plainAttrs_dict F.slot_dict_values F.type_dict_values (thn (he.run pins s σ H _ I hq) fun u s1 h1 => ?_)
  obtain ⟨x, H1, I1, rx, d, kvs, rfl, hd, q⟩ := h1
  obtain rfl : u = Value.ref d := rx
  obtain ⟨hz, hs0, vs, kv, hdo⟩ := I1.hok d _ hd
  obtain ⟨ep, hat⟩ := hdo.dictAt
  have lk : kvs.length = vs.length := Paired.length kv
  have I2 : Inv X pins σ H1 { s1 with heap := s1.heap.push { cls := .type "dict_values", data := .fields #[.ref d] } } := I1.kept (t' := s1.toks) fun b ob q => Heap.get?_push_of_some _ q
  refine ⟨hdo.typeIs, hdo.mapOf.noDict, ?_⟩
  show wpAny _ _ (callWith cpos (.builtin "dict.values") [.ref d] [] []) _ X.xe s1
  refine method_meetsIn F.slot_dict_values F.entry_dict_values rfl (PySem.evalArgs_none ⟨rfl, hdo.typeIs, F.args_dict_values_1 _, _, meets_dict_values (mixKind X.prog X.w) d hs0, ⟨vs, hdo⟩, ?_⟩)
  refine Calls.spliced_nil ?_
  refine PySem.W.kdl_call (PySem.W.kdl_values (knd := mixKind X.prog X.w) (kvs := vs) (ep := ep)) (I1.ok.hd hc) ⟨⟨_, Heap.get?_push_size _ rfl, rfl, rfl⟩, hat.push _⟩ (by omega) fun h' tk acc c hk hS hacc => ?_
  have hn := I2.hok.fresh (Nat.le_refl _)
  exact ⟨.ref _, upd H1 (s1.heap.push { cls := .type "dict_values", data := .fields #[.ref d] }).objs.size (.lst (kvs.map (·.2))), I2.laid (t' := tk) hk (Nat.le_refl _) ⟨by rw [List.length_map]; exact hz, acc.toList, c, kv_vals (K := Unit) kv (by rw [Array.length_toList]; exact hacc.1) (fun j u hj => hacc.2 j u (by rw [← Array.getElem?_toList]; exact hj)), by rw [Array.toArray_toList]; exact hS⟩, rfl, q _ hn⟩
theorem listVals {te : TE} {σ : L2.St} {H : Hp} {Q : VK} (h : te σ H fun x H1 => ∃ (d : Addr) (kvs : List (Key × V)), x = .ref d ∧ H1 d = some (.dK kvs) ∧ ∀ p, H1 p = none → Q (.ref p) (upd H1 p (.lst (kvs.map (·.2))))) : tListVals te σ H Q := h
/-! ### walks -/
section
variable {K : PySem.W.Frag} {a : Addr} {xs : List V} {g : TG} {tb : TS} {D : Ends} {σ : L2.St} {G : Hp}
/-- for n, x in enumerate(a list) -/
theorem for_enumL (Pv : Nat → L2.St → Hp → Prop) (h0 : Pv 0 σ G) (hq : ∀ i σ G, i ≤ xs.length → Pv i σ G → SqL K G a xs)
    (hs : ∀ i y σ G N, xs[i]? = some y → G N = none → Pv i σ G → g (.ref N) σ (upd G N (.tup [.int ((i : Nat) : Int), y])) fun σ2 G2 => tb { D with nx := Pv (i + 1), ct := Pv (i + 1), bk := D.nx } σ2 G2) (hd : ∀ σ G, Pv xs.length σ G → D.nx σ G) :
    ∃ W : Nat → Nat → L2.St → Hp → Prop, (∃ m, W 0 m σ G) ∧ ∀ i m σ G, W i m σ G →
      ((Ite K a).stop i G ∧ D.nx σ G) ∨ ((Ite K a).go i G ∧ ∃ N : L2.St → Hp → Prop, (∀ σ' G', N σ' G' → ∃ m', m' < m ∧ W (i + 1) m' σ' G') ∧ ∀ x G', (Ite K a).yld i G x G' → g x σ G' fun σ2 G2 => tb { D with nx := N, ct := N, bk := D.nx } σ2 G2) := by
  refine ⟨fun i m σ G => i + m = xs.length ∧ Pv i σ G, ⟨_, Nat.zero_add _, h0⟩, fun i m σ G w => ?_⟩
  obtain ⟨e, p⟩ := w
  have q := hq i σ G (by omega) p
  cases m with
  | zero =>
    obtain rfl : i = xs.length := e
    exact .inl ⟨⟨xs, q, Nat.le_refl _⟩, hd σ G p⟩
  | succ m =>
    have ey := List.getElem?_eq_getElem (show i < xs.length by omega)
    refine .inr ⟨⟨xs, _, q, ey⟩, Pv (i + 1), fun σ' G' n => ⟨m, Nat.lt_succ_self m, by omega, n⟩, ?_⟩
    rintro x G' ⟨N, y, rfl, gn, rfl, al⟩
    exact hs i y σ G N (al xs q) gn p
/-- for x in reversed(a list) -/
theorem for_revL (Pv : Nat → L2.St → Hp → Prop) (h0 : Pv 0 σ G) (hq : ∀ i σ G, i ≤ xs.length → Pv i σ G → SqL K G a xs)
    (hs : ∀ i y σ G, xs[xs.length - 1 - i]? = some y → i < xs.length → Pv i σ G → g y σ G fun σ2 G2 => tb { D with nx := Pv (i + 1), ct := Pv (i + 1), bk := D.nx } σ2 G2) (hd : ∀ σ G, Pv xs.length σ G → D.nx σ G) :
    ∃ W : Nat → Nat → L2.St → Hp → Prop, (∃ m, W 0 m σ G) ∧ ∀ i m σ G, W i m σ G →
      ((Itv K a xs.length).stop i G ∧ D.nx σ G) ∨ ((Itv K a xs.length).go i G ∧ ∃ N : L2.St → Hp → Prop, (∀ σ' G', N σ' G' → ∃ m', m' < m ∧ W (i + 1) m' σ' G') ∧ ∀ x G', (Itv K a xs.length).yld i G x G' → g x σ G' fun σ2 G2 => tb { D with nx := N, ct := N, bk := D.nx } σ2 G2) := by
  refine ⟨fun i m σ G => i + m = xs.length ∧ Pv i σ G, ⟨_, Nat.zero_add _, h0⟩, fun i m σ G w => ?_⟩
  obtain ⟨e, p⟩ := w
  have q := hq i σ G (by omega) p
  cases m with
  | zero =>
    obtain rfl : i = xs.length := e
    exact .inl ⟨Nat.le_refl _, hd σ G p⟩
  | succ m =>
    have ey := List.getElem?_eq_getElem (show xs.length - 1 - i < xs.length by omega)
    refine .inr ⟨⟨by omega, xs, _, q, ey⟩, Pv (i + 1), fun σ' G' n => ⟨m, Nat.lt_succ_self m, by omega, n⟩, ?_⟩
    rintro x G' ⟨rfl, al⟩
    exact hs i x σ _ (al xs q) (by omega) p
/-- for k, v in d.items(), d locked -/
theorem for_items {d : Addr} {o : Obj} {kvs : List (Key × V)} (Pv : Nat → L2.St → Hp → Prop) (h0 : Pv 0 σ G) (hq : ∀ i σ G, i ≤ kvs.length → Pv i σ G → G d = some (.frz o (.dK kvs)))
    (hs : ∀ i k v σ G N, kvs[i]? = some (k, v) → G N = none → Pv i σ G → g (.ref N) σ (upd G N (.tup [kV k, v])) fun σ2 G2 => tb { D with nx := Pv (i + 1), ct := Pv (i + 1), bk := D.nx } σ2 G2) (hd : ∀ σ G, Pv kvs.length σ G → D.nx σ G) :
    ∃ W : Nat → Nat → L2.St → Hp → Prop, (∃ m, W 0 m σ G) ∧ ∀ i m σ G, W i m σ G →
      ((Iti d o kvs).stop i G ∧ D.nx σ G) ∨ ((Iti d o kvs).go i G ∧ ∃ N : L2.St → Hp → Prop, (∀ σ' G', N σ' G' → ∃ m', m' < m ∧ W (i + 1) m' σ' G') ∧ ∀ x G', (Iti d o kvs).yld i G x G' → g x σ G' fun σ2 G2 => tb { D with nx := N, ct := N, bk := D.nx } σ2 G2) := by
  refine ⟨fun i m σ G => i + m = kvs.length ∧ Pv i σ G, ⟨_, Nat.zero_add _, h0⟩, fun i m σ G w => ?_⟩
  obtain ⟨e, p⟩ := w
  have q := hq i σ G (by omega) p
  cases m with
  | zero =>
    obtain rfl : i = kvs.length := e
    exact .inl ⟨⟨q, Nat.le_refl _⟩, hd σ G p⟩
  | succ m =>
    refine .inr ⟨⟨q, by omega⟩, Pv (i + 1), fun σ' G' n => ⟨m, Nat.lt_succ_self m, by omega, n⟩, ?_⟩
    rintro x G' ⟨T, k, v, hk, rfl, hT, rfl⟩
    exact hs i k v σ G T hk hT p
end
theorem enumL {K : PySem.W.Frag} {ta : TA} {σ : L2.St} {G : Hp} {R : It → Hp → Prop} (h : ta σ G fun vs G1 => ∃ a xs, vs = [.ref a] ∧ SqL K G1 a xs ∧ R (Ite K a) G1) : iEnum K ta σ G R := h
theorem itemsW {td : TE} {σ : L2.St} {H : Hp} {R : It → Hp → Prop} (h : td σ H fun x H1 => ∃ d o kvs, x = .ref d ∧ H1 d = some (.frz o (.dK kvs)) ∧ R (Iti d o kvs) H1) : iItems td σ H R := h
end WP

namespace ML
open PySem PySem.Spec PyProof.Rows L2
/-! ### items in a dict by their names -/
structure Itm where
  a : Addr
  dx : Addr
  c : Addr
  pz : V
  vz : V
  r : Row
  par : Tx
structure Mut where
  off : Nat
  sz : Nat
  ch : List Tx
abbrev tx (l : List Tx) : List V := l.map fun w => V.str (SX.S w)
def ent (x : Itm) : Key × V := (Sum.inr (SX.S x.r.nm), .ref x.a)
structure Grp (K : PySem.W.Frag) (H : Hp) (C I : Addr) (xs : List Itm) (ms : List Mut) : Prop where
  len : ms.length = xs.length
  d : H I = some (.dK (xs.map ent))
  o : ∀ (k : Nat) x m, xs[k]? = some x → ms[k]? = some m → H x.a = some (.ins C x.dx (flds x.r x.pz x.vz x.par m.off m.sz x.c)) ∧ H x.c = some (.lst (tx m.ch))
  na : (xs.map Itm.a).Nodup
  nc : (xs.map Itm.c).Nodup
  nm : (xs.map fun x => x.r.nm).Nodup
  v : ∀ x ∈ xs, PicV K H x.pz x.r.pc ∧ ValV K H x.vz x.r.vl
theorem nodup_at {α β : Type} {l : List α} {f : α → β} (h : (l.map f).Nodup) {i j : Nat} {x y : α} (hi : l[i]? = some x) (hj : l[j]? = some y) (e : f x = f y) : i = j := by
  obtain ⟨h1, e1⟩ := List.getElem?_eq_some_iff.mp hi
  obtain ⟨h2, e2⟩ := List.getElem?_eq_some_iff.mp hj
  refine (List.getElem_inj (h₀ := by rw [List.length_map]; exact h1) (h₁ := by rw [List.length_map]; exact h2) h).mp ?_
  rw [List.getElem_map, List.getElem_map, e1, e2, e]
theorem val_ent : ∀ {xs : List Itm} {w : Tx}, valV (xs.map ent) (Sum.inr (SX.S w)) = (xs.find? fun x => decide (x.r.nm = w)).map fun x => V.ref x.a
  | [], _ => rfl
  | x :: xs, w => by
    by_cases h : x.r.nm = w
    · rw [List.map_cons, valV_pos (by show Sum.inr (SX.S x.r.nm) = _; rw [h])]
      simp [List.find?_cons, h, ent]
    · rw [List.map_cons, valV_neg (fun z => h (SX.S_inj (Sum.inr.inj z))), val_ent]
      simp [List.find?_cons, h]
theorem find_nm : ∀ {xs : List Itm} {k : Nat} {x : Itm}, (xs.map fun x => x.r.nm).Nodup → xs[k]? = some x → (xs.find? fun y => decide (y.r.nm = x.r.nm)) = some x
  | y :: ys, 0, x, _, h => by cases h; simp
  | y :: ys, k + 1, x, n, h => by
    have n := List.nodup_cons.mp n
    have h : ys[k]? = some x := by simpa using h
    have ne : ¬ y.r.nm = x.r.nm := fun e => n.1 (List.mem_map.mpr ⟨x, List.mem_of_getElem? h, e.symm⟩)
    have ih := find_nm n.2 h
    simp [List.find?_cons, ne, ih]
section
variable {K : PySem.W.Frag} {H H' : Hp} {C I : Addr} {xs : List Itm} {ms : List Mut}
theorem Grp.get (g : Grp K H C I xs ms) {k : Nat} {x : Itm} (h : xs[k]? = some x) : valV (xs.map ent) (Sum.inr (SX.S x.r.nm)) = some (.ref x.a) := by rw [val_ent, find_nm g.nm h]; rfl
theorem Grp.has (g : Grp K H C I xs ms) (w : Tx) : (valV (xs.map ent) (Sum.inr (SX.S w))).isSome = decide (w ∈ xs.map fun x => x.r.nm) := by
  rw [val_ent, Option.isSome_map]
  cases e : xs.find? fun x => decide (x.r.nm = w) with
  | none =>
    rw [decide_eq_false]; rfl
    intro h
    obtain ⟨x, hx, rfl⟩ := List.mem_map.mp h
    have := List.find?_eq_none.mp e x hx
    rw [decide_eq_true rfl] at this
    exact this rfl
  | some x =>
    rw [decide_eq_true]; rfl
    have h1 := List.find?_some e
    rw [decide_eq_true_eq] at h1
    exact List.mem_map.mpr ⟨x, List.mem_of_find?_eq_some e, h1⟩
theorem Grp.keep (g : Grp K H C I xs ms) (e : ∀ b o, H b = some o → (∃ (s : Addr × List (Str × V)), o = .ins C s.1 s.2) ∨ (∃ l, o = .lst l) ∨ (∃ l, o = .dK l) → H' b = some o) (k : ∀ b us, SqT K H b us → SqT K H' b us) : Grp K H' C I xs ms :=
  ⟨g.len, e _ _ g.d (.inr (.inr ⟨_, rfl⟩)), fun j x m h1 h2 => ⟨e _ _ (g.o j x m h1 h2).1 (.inl ⟨(_, _), rfl⟩), e _ _ (g.o j x m h1 h2).2 (.inr (.inl ⟨_, rfl⟩))⟩, g.na, g.nc, g.nm, fun x hx => ⟨(g.v x hx).1.keep k, (g.v x hx).2.keep k⟩⟩
theorem Grp.same (g : Grp K H C I xs ms) (e : Same H H') : Grp K H' C I xs ms := g.keep (fun b o h _ => e b o h) fun b us h => WP.sqt e h
theorem sqt_upd {q b : Addr} {u : HO} {us : List V} (hq : ∀ o, H q = some o → (∀ l, o ≠ .tup l) ∧ ∀ s l, o ≠ .frz s (.tup l)) (h : SqT K H b us) : SqT K (upd H q u) b us := by
  rcases h with (h | ⟨o, h⟩) | h
  · exact .inl (.inl (by rw [upd_ne (fun z => (hq _ (z ▸ h)).1 _ rfl)]; exact h))
  · exact .inl (.inr ⟨o, by rw [upd_ne (fun z => (hq _ (z ▸ h)).2 _ _ rfl)]; exact h⟩)
  · exact .inr h
theorem sqt_ins {q b dx : Addr} {u : HO} {fs : List (Str × V)} {us : List V} (hq : H q = some (.ins C dx fs)) (h : SqT K H b us) : SqT K (upd H q u) b us := sqt_upd (fun o e => by rw [hq] at e; cases e; exact ⟨(fun l z => nomatch z), (fun s l z => nomatch z)⟩) h
theorem sqt_lst {q b : Addr} {u : HO} {ls us : List V} (hq : H q = some (.lst ls)) (h : SqT K H b us) : SqT K (upd H q u) b us := sqt_upd (fun o e => by rw [hq] at e; cases e; exact ⟨(fun l z => nomatch z), (fun s l z => nomatch z)⟩) h
theorem sqt_dk {q b : Addr} {u : HO} {ls : List (Key × V)} {us : List V} (hq : H q = some (.dK ls)) (h : SqT K H b us) : SqT K (upd H q u) b us := sqt_upd (fun o e => by rw [hq] at e; cases e; exact ⟨(fun l z => nomatch z), (fun s l z => nomatch z)⟩) h
theorem mset {k : Nat} {m : Mut} {j : Nat} {m' : Mut} (h : (ms.set k m)[j]? = some m') : (j = k ∧ m' = m) ∨ (j ≠ k ∧ ms[j]? = some m') := by
  by_cases e : j = k
  · subst e
    rw [List.getElem?_set_self'] at h
    cases h2 : ms[j]? with
    | none => rw [h2] at h; cases h
    | some z => rw [h2] at h; cases h; exact .inl ⟨rfl, rfl⟩
  · rw [List.getElem?_set_ne (Ne.symm e)] at h
    exact .inr ⟨e, h⟩
/-- an item's numbers are stored anew -/
theorem Grp.setM (g : Grp K H C I xs ms) {k : Nat} {x : Itm} {m : Mut} (hx : xs[k]? = some x) (hm : ms[k]? = some m) (off sz : Nat) : Grp K (upd H x.a (.ins C x.dx (flds x.r x.pz x.vz x.par off sz x.c))) C I xs (ms.set k ⟨off, sz, m.ch⟩) := by
  obtain ⟨ha, hc⟩ := g.o k x m hx hm
  refine ⟨by rw [List.length_set]; exact g.len, by rw [upd_ne (ne_of g.d ha (by intro z; cases z))]; exact g.d, fun j y m' hy hm' => ?_, g.na, g.nc, g.nm, fun y hy => ⟨(g.v y hy).1.keep fun b us h => sqt_ins ha h, (g.v y hy).2.keep fun b us h => sqt_ins ha h⟩⟩
  rcases mset hm' with ⟨rfl, rfl⟩ | ⟨ne, hm'⟩
  · rw [hx] at hy; cases hy
    exact ⟨upd_same, by rw [upd_ne (ne_of hc ha (by intro z; cases z))]; exact hc⟩
  · obtain ⟨h1, h2⟩ := g.o j y m' hy hm'
    exact ⟨by rw [upd_ne (fun z => ne (nodup_at g.na hy hx z))]; exact h1, by rw [upd_ne (ne_of h2 ha (by intro z; cases z))]; exact h2⟩
/-- an item's list of children grows -/
theorem Grp.setC (g : Grp K H C I xs ms) {k : Nat} {x : Itm} {m : Mut} (hx : xs[k]? = some x) (hm : ms[k]? = some m) (w : Tx) : Grp K (upd H x.c (.lst (tx m.ch ++ [.str (SX.S w)]))) C I xs (ms.set k ⟨m.off, m.sz, m.ch ++ [w]⟩) := by
  obtain ⟨ha, hc⟩ := g.o k x m hx hm
  refine ⟨by rw [List.length_set]; exact g.len, by rw [upd_ne (ne_of g.d hc (by intro z; cases z))]; exact g.d, fun j y m' hy hm' => ?_, g.na, g.nc, g.nm, fun y hy => ⟨(g.v y hy).1.keep fun b us h => sqt_lst hc h, (g.v y hy).2.keep fun b us h => sqt_lst hc h⟩⟩
  rcases mset hm' with ⟨rfl, rfl⟩ | ⟨ne, hm'⟩
  · rw [hx] at hy; cases hy
    exact ⟨by rw [upd_ne (ne_of ha hc (by intro z; cases z))]; exact ha, by rw [upd_same]; show _ = some (HO.lst (List.map _ (m.ch ++ [w]))); rw [List.map_append]; rfl⟩
  · obtain ⟨h1, h2⟩ := g.o j y m' hy hm'
    exact ⟨by rw [upd_ne (ne_of h1 hc (by intro z; cases z))]; exact h1, by rw [upd_ne (fun z => ne (nodup_at g.nc hy hx z))]; exact h2⟩
/-- one more item -/
theorem Grp.add (g : Grp K H C I xs ms) {x : Itm} {m : Mut} (ha : H x.a = some (.ins C x.dx (flds x.r x.pz x.vz x.par m.off m.sz x.c))) (hc : H x.c = some (.lst (tx m.ch))) (na : ∀ y ∈ xs, y.a ≠ x.a) (nc : ∀ y ∈ xs, y.c ≠ x.c) (nm : x.r.nm ∉ xs.map fun x => x.r.nm)
    (v : PicV K H x.pz x.r.pc ∧ ValV K H x.vz x.r.vl) : Grp K (upd H I (.dK (putK (xs.map ent) (Sum.inr (SX.S x.r.nm)) (.ref x.a)))) C I (xs ++ [x]) (ms ++ [m]) := by
  have kp : ∀ b us, SqT K H b us → SqT K (upd H I (.dK (putK (xs.map ent) (Sum.inr (SX.S x.r.nm)) (.ref x.a)))) b us := fun b us h => sqt_dk g.d h
  have nn : valV (xs.map ent) (Sum.inr (SX.S x.r.nm)) = none := by
    have := g.has x.r.nm
    rw [decide_eq_false nm] at this
    exact Option.isSome_eq_false_iff.mp this |> Option.isNone_iff_eq_none.mp
  refine ⟨by rw [List.length_append, List.length_append, g.len]; rfl, ?_, fun j y m' hy hm' => ?_, ?_, ?_, ?_, fun y hy => ?_⟩
  · rw [upd_same, putK_new _ nn, List.map_append]; rfl
  · have l := g.len
    rcases Nat.lt_or_ge j xs.length with z | z
    · rw [List.getElem?_append_left z] at hy
      rw [List.getElem?_append_left (by omega)] at hm'
      obtain ⟨h1, h2⟩ := g.o j y m' hy hm'
      exact ⟨by rw [upd_ne (ne_of h1 g.d (by intro z; cases z))]; exact h1, by rw [upd_ne (ne_of h2 g.d (by intro z; cases z))]; exact h2⟩
    · rw [List.getElem?_append_right z] at hy
      rw [List.getElem?_append_right (by omega), l] at hm'
      cases e : j - xs.length with
      | zero =>
        rw [e] at hy hm'; cases hy; cases hm'
        exact ⟨by rw [upd_ne (ne_of ha g.d (by intro z; cases z))]; exact ha, by rw [upd_ne (ne_of hc g.d (by intro z; cases z))]; exact hc⟩
      | succ n => rw [e] at hy; simp at hy
  · rw [List.map_append, List.nodup_append]
    refine ⟨g.na, List.nodup_cons.mpr ⟨List.not_mem_nil, List.nodup_nil⟩, fun a h b hb => ?_⟩
    obtain ⟨y, hy, rfl⟩ := List.mem_map.mp h
    rw [List.mem_singleton.mp hb]; exact na y hy
  · rw [List.map_append, List.nodup_append]
    refine ⟨g.nc, List.nodup_cons.mpr ⟨List.not_mem_nil, List.nodup_nil⟩, fun a h b hb => ?_⟩
    obtain ⟨y, hy, rfl⟩ := List.mem_map.mp h
    rw [List.mem_singleton.mp hb]; exact nc y hy
  · rw [List.map_append, List.nodup_append]
    refine ⟨g.nm, List.nodup_cons.mpr ⟨List.not_mem_nil, List.nodup_nil⟩, fun a h b hb => ?_⟩
    rw [List.mem_singleton.mp hb]; exact fun z => nm (by rw [← show a = x.r.nm from z]; exact h)
  · rcases List.mem_append.mp hy with z | z
    · exact ⟨(g.v y z).1.keep kp, (g.v y z).2.keep kp⟩
    · rw [List.mem_singleton.mp z]; exact ⟨v.1.keep kp, v.2.keep kp⟩
end
/-! ### the walk over the entries -/
def stp (p : List Row) (r : Row) : List Row := below r.lv p ++ [r]
def pathOf (rs : List Row) : List Row := rs.foldl stp []
theorem pathOf_snoc (rs : List Row) (r : Row) : pathOf (rs ++ [r]) = below r.lv (pathOf rs) ++ [r] := by unfold pathOf; rw [List.foldl_append]; rfl
theorem path_len : ∀ (rs : List Row), (pathOf rs).length ≤ rs.length := fun rs => by
  unfold pathOf
  suffices h : ∀ (rs p : List Row), (rs.foldl stp p).length ≤ p.length + rs.length by have := h rs []; simpa using this
  intro rs
  induction rs with
  | nil => intro p; exact Nat.le_refl _
  | cons r rs ih =>
    intro p
    have h1 := ih (stp p r)
    have h2 : (stp p r).length ≤ p.length + 1 := by
      unfold stp below
      rw [List.length_append]
      have := List.length_filter_le (fun o : Row => decide (o.lv < r.lv)) p
      simpa using this
    rw [List.foldl_cons, List.length_cons]; omega
theorem path_mem {rs : List Row} : ∀ r ∈ pathOf rs, r ∈ rs := by
  unfold pathOf
  suffices h : ∀ (rs p : List Row), ∀ r ∈ rs.foldl stp p, r ∈ p ∨ r ∈ rs by
    intro r hr
    rcases h rs [] r hr with z | z
    · cases z
    · exact z
  intro rs
  induction rs with
  | nil => intro p r h; exact .inl h
  | cons x rs ih =>
    intro p r h
    rcases ih (stp p x) r h with z | z
    · rcases List.mem_append.mp z with z | z
      · exact .inl (List.mem_filter.mp z).1
      · rw [List.mem_singleton.mp z]; exact .inr List.mem_cons_self
    · exact .inr (List.mem_cons_of_mem _ z)
def nmsOf (rs : List Row) : List Tx := rs.map fun r => r.nm
def nxl (rs : List Row) (k : Nat) : Nat := match rs[k + 1]? with | some r => r.lv | none => 1
/-- what is wrong with the k-th entry -/
def flt (rs : List Row) (k : Nat) (r : Row) : Tx := fault (nmsOf (rs.take k)) (pathOf (rs.take k)) r (nxl rs k)
/-- the name of the group that an entry stands in -/
def parN (p : List Row) (r : Row) : Tx := match (below r.lv p).getLast? with | some o => o.nm | none => []
end ML
namespace ML
open PySem PySem.Spec PyProof.Rows L2
def chs (xs : List Itm) (w : Tx) : List Tx := (xs.filter fun x => decide (x.par = w)).map fun x => x.r.nm
/-- the items as they are made -/
structure Fresh (rs : List Row) (xs : List Itm) (ms : List Mut) : Prop where
  r : xs.map Itm.r = rs
  p : ∀ (k : Nat) x, xs[k]? = some x → x.par = parN (pathOf (rs.take k)) x.r
  m : ms = xs.map fun x => ⟨0, isz x.r.pc, chs xs x.r.nm⟩
theorem parN_mem {p : List Row} {r : Row} : parN p r = [] ∨ ∃ o ∈ p, o.nm = parN p r := by
  unfold parN
  cases e : (below r.lv p).getLast? with
  | none => exact .inl rfl
  | some o => exact .inr ⟨o, (List.mem_filter.mp (List.mem_of_getLast? e)).1, rfl⟩
theorem Fresh.len {rs : List Row} {xs : List Itm} {ms : List Mut} (f : Fresh rs xs ms) : xs.length = rs.length := by rw [← f.r, List.length_map]
theorem Fresh.nil : Fresh [] [] [] := ⟨rfl, fun k x h => by simp at h, rfl⟩
theorem Fresh.find {rs : List Row} {xs : List Itm} {ms : List Mut} (f : Fresh rs xs ms) {o : Row} (h : o ∈ rs) : ∃ (k : Nat) (x : Itm), xs[k]? = some x ∧ x.r = o := by
  rw [← f.r] at h
  obtain ⟨x, hx, rfl⟩ := List.mem_map.mp h
  obtain ⟨k, hk⟩ := List.getElem?_of_mem hx
  exact ⟨k, x, hk, rfl⟩
theorem Fresh.parIn {rs : List Row} {xs : List Itm} {ms : List Mut} (f : Fresh rs xs ms) {x : Itm} (h : x ∈ xs) : x.par = [] ∨ x.par ∈ xs.map fun x => x.r.nm := by
  obtain ⟨k, hk⟩ := List.getElem?_of_mem h
  rw [f.p k x hk]
  refine parN_mem.imp id fun z => ?_
  obtain ⟨o, ho, e⟩ := z
  obtain ⟨j, y, hy, rfl⟩ := f.find (List.mem_of_mem_take (path_mem o ho))
  rw [← e]
  exact List.mem_map.mpr ⟨y, List.mem_of_getElem? hy, rfl⟩
theorem chs_app (xs : List Itm) (y : Itm) (w : Tx) : chs (xs ++ [y]) w = chs xs w ++ (if y.par = w then [y.r.nm] else []) := by
  unfold chs
  rw [List.filter_append, List.map_append]
  by_cases h : y.par = w <;> simp [h]
theorem chs_none {xs : List Itm} {w : Tx} (h : ∀ x ∈ xs, x.par ≠ w) : chs xs w = [] := by
  unfold chs
  rw [List.map_eq_nil_iff, List.filter_eq_nil_iff]
  intro x hx
  rw [decide_eq_true_eq]; exact h x hx
theorem Fresh.tk {rs : List Row} {xs : List Itm} {y : Itm} (l : xs.length = rs.length) (p : ∀ (k : Nat) x, xs[k]? = some x → x.par = parN (pathOf (rs.take k)) x.r) (hy : y.par = parN (pathOf rs) y.r) : ∀ (k : Nat) x, (xs ++ [y])[k]? = some x → x.par = parN (pathOf ((rs ++ [y.r]).take k)) x.r := fun k x h => by
  rcases Nat.lt_or_ge k xs.length with z | z
  · rw [List.getElem?_append_left z] at h
    rw [List.take_append_of_le_length (by omega)]
    exact p k x h
  · rw [List.getElem?_append_right z] at h
    cases e : k - xs.length with
    | zero =>
      rw [e] at h; cases h
      rw [show k = rs.length by omega, List.take_left]
      exact hy
    | succ n => rw [e] at h; simp at h
/-- one more entry that stands in no group -/
theorem Fresh.root {rs : List Row} {xs : List Itm} {ms : List Mut} (f : Fresh rs xs ms) {y : Itm} (hy : y.par = parN (pathOf rs) y.r) (h0 : y.par = []) (hn : y.r.nm ∉ xs.map fun x => x.r.nm) (ne : y.r.nm ≠ []) (nes : ∀ x ∈ xs, x.r.nm ≠ []) : Fresh (rs ++ [y.r]) (xs ++ [y]) (ms ++ [⟨0, isz y.r.pc, []⟩]) := by
  refine ⟨by rw [List.map_append, f.r]; rfl, Fresh.tk f.len f.p hy, ?_⟩
  rw [List.map_append, f.m]
  congr 1
  · refine List.map_congr_left fun x hx => ?_
    rw [chs_app, if_neg (by rw [h0]; exact (nes x hx).symm), List.append_nil]
  · rw [List.map_cons, List.map_nil, chs_app, if_neg (by rw [h0]; exact ne.symm), List.append_nil, chs_none]
    intro x hx e
    rcases f.parIn hx with z | z
    · rw [z] at e; exact ne e.symm
    · rw [e] at z; exact hn z
/-- one more entry of a group -/
theorem Fresh.inner {rs : List Row} {xs : List Itm} {ms : List Mut} (f : Fresh rs xs ms) {y x : Itm} {m : Mut} {k : Nat} (hy : y.par = parN (pathOf rs) y.r) (hk : xs[k]? = some x) (hm : ms[k]? = some m) (h0 : y.par = x.r.nm) (hn : y.r.nm ∉ xs.map fun x => x.r.nm) (ne : y.r.nm ≠ []) (nd : (xs.map fun x => x.r.nm).Nodup) :
    Fresh (rs ++ [y.r]) (xs ++ [y]) ((ms ++ [(⟨0, isz y.r.pc, []⟩ : Mut)]).set k ⟨m.off, m.sz, m.ch ++ [y.r.nm]⟩) := by
  have lk := (List.getElem?_eq_some_iff.mp hk).1
  have lm : ms.length = xs.length := by rw [f.m, List.length_map]
  refine ⟨by rw [List.map_append, f.r]; rfl, Fresh.tk f.len f.p hy, ?_⟩
  rw [List.set_append_left _ _ (by omega), List.map_append]
  congr 1
  · refine List.ext_getElem? fun j => ?_
    rw [List.getElem?_map]
    by_cases e : j = k
    · subst e
      rw [List.getElem?_set_self (by omega), hk]
      have hm2 := hm
      rw [f.m, List.getElem?_map, hk] at hm2
      cases hm2
      rw [Option.map_some, chs_app, if_pos h0]
    · rw [List.getElem?_set_ne (Ne.symm e), f.m, List.getElem?_map]
      cases hj : xs[j]? with
      | none => rfl
      | some z =>
        rw [Option.map_some, Option.map_some, chs_app, if_neg, List.append_nil]
        rw [h0]
        exact fun q => e (nodup_at nd hk hj q).symm
  · rw [List.map_cons, List.map_nil, chs_app, if_neg, List.append_nil, chs_none]
    · intro z hz e
      rcases f.parIn hz with q | q
      · rw [q] at e; exact ne e.symm
      · rw [e] at q; exact hn q
    · intro e
      rw [h0] at e
      exact hn (by rw [← e]; exact List.mem_map.mpr ⟨x, List.mem_of_getElem? hk, rfl⟩)
end ML
namespace ML
open PySem PySem.Spec PyProof.Rows L2
theorem fault_nm {names : List Tx} {p : List Row} {r : Row} {nl : Nat} (h : fault names p r nl = []) : r.nm ∉ names := by
  unfold fault at h
  split at h
  · exact absurd h (by decide)
  · split at h
    · exact absurd h (by decide)
    · assumption
theorem par_read {K : PySem.W.Frag} {H : Hp} {O : Addr} {ys : List V} {p : List Row} {r : Row} {σ : L2.St} {i : Nat} {Q : VK} (hv : σ[i]? = some (some (.ref O))) (o : H O = some (.lst ys)) (hy : RwA K H ys (below r.lv p)) (q : Q (.str (SX.S (parN p r))) H) :
    if (!ys.isEmpty) = true then tOp (rIxT K) (tOp (rIxL K) (tVar i) (tUn (rU fun i => V.int (-i)) (tC (.int 1)))) (tC (.int 1)) σ H Q else tC (.str (SX.S [])) σ H Q := by
  cases e : (below r.lv p).getLast? with
  | none =>
    have hp : below r.lv p = [] := List.getLast?_eq_none_iff.mp e
    have hys : ys = [] := List.length_eq_zero_iff.mp (by rw [hy.1, hp]; rfl)
    rw [if_neg (by rw [hys]; exact Bool.false_ne_true)]
    have z : parN p r = [] := by unfold parN; rw [e]
    rw [z] at q
    exact WP.con q
  | some x =>
    obtain ⟨v, hl, a, pz, vz, rfl, ha, _, _⟩ := RwA.last hy e
    have ne : ys.isEmpty = false := by
      cases ys with
      | nil => cases hl
      | cons x t => rfl
    rw [if_pos (by rw [ne]; rfl)]
    have z : parN p r = x.nm := by unfold parN; rw [e]
    rw [z] at q
    refine WP.op (WP.op (WP.var hv (WP.un (WP.con (WP.rU_ ?_)))))
    refine WP.ixL (SqL.of o) (at_last _ _ hl) (WP.con ?_)
    exact WP.ixT ha WP.at1 q
end ML
namespace ML
open PySem PySem.Spec PyProof.Rows L2
section
variable {r : Row} {pz vz : V} {par : Tx} {off sz : Nat} {c : Addr}
theorem f_times : (flds r pz vz par off sz c).lookup ("times" : Str) = some (V.int (r.tm : Int)) := by rfl
theorem f_parent : (flds r pz vz par off sz c).lookup ("parent" : Str) = some (V.str (SX.S par)) := by rfl
theorem f_size : (flds r pz vz par off sz c).lookup ("size" : Str) = some (V.int (sz : Int)) := by rfl
theorem f_offset : (flds r pz vz par off sz c).lookup ("offset" : Str) = some (V.int (off : Int)) := by rfl
theorem f_children : (flds r pz vz par off sz c).lookup ("children" : Str) = some (V.ref c) := by rfl
theorem f_name : (flds r pz vz par off sz c).lookup ("name" : Str) = some (V.str (SX.S r.nm)) := by rfl
theorem f_picture : (flds r pz vz par off sz c).lookup ("picture" : Str) = some pz := by rfl
theorem f_value : (flds r pz vz par off sz c).lookup ("value" : Str) = some vz := by rfl
theorem p_size {s : Nat} : putF "size" (V.int (s : Int)) (flds r pz vz par off sz c) = flds r pz vz par off s c := by rfl
theorem p_offset {s : Nat} : putF "offset" (V.int (s : Int)) (flds r pz vz par off sz c) = flds r pz vz par s sz c := by rfl
theorem f_len : (flds r pz vz par off sz c).length < 1000 := by show 8 < 1000; decide
end
end ML
namespace ML
open PySem PySem.Spec PyProof.Rows L2
/-! ### sizes and offsets -/
def tms (r : Row) : Nat := max 1 r.tm
/-- the item of a name -/
def pix (xs : List Itm) (w : Tx) : Nat := (xs.findIdx? fun x => decide (x.r.nm = w)).getD 0
def szStep (xs : List Itm) (ms : List Mut) (k : Nat) : List Mut := match xs[k]?, ms[k]? with
  | some x, some m => if x.par = [] then ms else match ms[pix xs x.par]? with
    | some g => ms.set (pix xs x.par) ⟨g.off, g.sz + m.sz * tms x.r, g.ch⟩
    | none => ms
  | _, _ => ms
/-- the items' sizes behind i steps from the end -/
def szs (xs : List Itm) (ms : List Mut) : Nat → List Mut
  | 0 => ms
  | i + 1 => szStep xs (szs xs ms i) (xs.length - 1 - i)
theorem szStep_len (xs : List Itm) (ms : List Mut) (k : Nat) : (szStep xs ms k).length = ms.length := by
  unfold szStep
  split
  · split
    · rfl
    · split
      · rw [List.length_set]
      · rfl
  · rfl
theorem szs_len (xs : List Itm) (ms : List Mut) : ∀ i, (szs xs ms i).length = ms.length
  | 0 => rfl
  | i + 1 => (szStep_len _ _ _).trans (szs_len xs ms i)
theorem pix_at {xs : List Itm} (nd : (xs.map fun x => x.r.nm).Nodup) {w : Tx} (h : w ∈ xs.map fun x => x.r.nm) : ∃ x, xs[pix xs w]? = some x ∧ x.r.nm = w := by
  obtain ⟨x, hx, rfl⟩ := List.mem_map.mp h
  unfold pix
  cases e : xs.findIdx? fun y => decide (y.r.nm = x.r.nm) with
  | none =>
    have := List.findIdx?_eq_none_iff.mp e x hx
    rw [decide_eq_true rfl] at this
    cases this
  | some k =>
    obtain ⟨h1, h2, _⟩ := List.findIdx?_eq_some_iff_getElem.mp e
    exact ⟨xs[k], List.getElem?_eq_getElem h1, of_decide_eq_true h2⟩
/-- where the next item of each group stands -/
def ofStep (xs : List Itm) (s : (Tx → Nat) × List Mut) (k : Nat) : (Tx → Nat) × List Mut := match xs[k]?, s.2[k]? with
  | some x, some m => (fun w => if w = x.par then s.1 x.par + m.sz * tms x.r else if w = x.r.nm then s.1 x.par else s.1 w, s.2.set k ⟨s.1 x.par, m.sz, m.ch⟩)
  | _, _ => s
def ofs (xs : List Itm) (ms : List Mut) : Nat → (Tx → Nat) × List Mut
  | 0 => (fun _ => 0, ms)
  | i + 1 => ofStep xs (ofs xs ms i) i
theorem ofs_len (xs : List Itm) (ms : List Mut) : ∀ i, (ofs xs ms i).2.length = ms.length
  | 0 => rfl
  | i + 1 => by
    have ih := ofs_len xs ms i
    show (ofStep xs (ofs xs ms i) i).2.length = _
    unfold ofStep
    split
    · rw [List.length_set]; exact ih
    · exact ih
/-- the storage that all need -/
def total (xs : List Itm) (ms : List Mut) : Nat := (ofs xs (szs xs ms xs.length) xs.length).1 []
end ML
namespace ML
open PySem PySem.Spec PyProof.Rows L2
abbrev refs (xs : List Itm) : List V := xs.map fun x => V.ref x.a
end ML
namespace ML
open PySem PySem.Spec PyProof.Rows L2
theorem upd_comm {H : Hp} {a b : Addr} {o u : HO} (n : a ≠ b) : upd (upd H a o) b u = upd (upd H b u) a o := by
  funext x
  by_cases h1 : x = a
  · subst h1
    rw [upd_ne n, upd_same, upd_same]
  · by_cases h2 : x = b
    · subst h2; rw [upd_same, upd_ne h1, upd_same]
    · rw [upd_ne h2, upd_ne h1, upd_ne h1, upd_ne h2]
section
variable {K : PySem.W.Frag} {H H' : Hp} {C I D : Addr} {xs : List Itm} {ms : List Mut} {u : HO}
theorem Grp.aI (g : Grp K H C I xs ms) {k : Nat} {x : Itm} (hx : xs[k]? = some x) : x.a ≠ I := by
  have hm := List.getElem?_eq_getElem (l := ms) (i := k) (by rw [g.len]; exact (List.getElem?_eq_some_iff.mp hx).1)
  exact ne_of (g.o k x _ hx hm).1 g.d (by intro z; cases z)
/-- another dict changes -/
theorem Grp.dict (g : Grp K H C I xs ms) {l l' : List (Key × V)} (hD : H D = some (.dK l)) (n : D ≠ I) : Grp K (upd H D (.dK l')) C I xs ms :=
  ⟨g.len, by rw [upd_ne n.symm]; exact g.d, fun j x m h1 h2 => ⟨by rw [upd_ne (ne_of (g.o j x m h1 h2).1 hD (by intro z; cases z))]; exact (g.o j x m h1 h2).1, by rw [upd_ne (ne_of (g.o j x m h1 h2).2 hD (by intro z; cases z))]; exact (g.o j x m h1 h2).2⟩, g.na, g.nc, g.nm, fun x hx => ⟨(g.v x hx).1.keep fun b us h => sqt_dk hD h, (g.v x hx).2.keep fun b us h => sqt_dk hD h⟩⟩
/-- with the items' dict locked -/
theorem Grp.lM (g : Grp K (upd H I u) C I xs ms) {k : Nat} {x : Itm} {m : Mut} (hx : xs[k]? = some x) (hm : ms[k]? = some m) (off sz : Nat) : Grp K (upd (upd H x.a (.ins C x.dx (flds x.r x.pz x.vz x.par off sz x.c))) I u) C I xs (ms.set k ⟨off, sz, m.ch⟩) := by
  rw [upd_comm (g.aI hx)]; exact g.setM hx hm off sz
theorem Grp.lD (g : Grp K (upd H I u) C I xs ms) {l l' : List (Key × V)} (hD : H D = some (.dK l)) (n : D ≠ I) : Grp K (upd (upd H D (.dK l')) I u) C I xs ms := by
  rw [upd_comm n]; exact g.dict (by rw [upd_ne n]; exact hD) n
theorem Grp.lN (g : Grp K (upd H I u) C I xs ms) {N : Addr} {o : HO} (hN : H N = none) (n : N ≠ I) : Grp K (upd (upd H N o) I u) C I xs ms := by
  rw [upd_comm n]; exact g.same (WP.same_new (by rw [upd_ne n]; exact hN))
theorem Grp.lo (g : Grp K (upd H I u) C I xs ms) {k : Nat} {x : Itm} {m : Mut} (hx : xs[k]? = some x) (hm : ms[k]? = some m) : H x.a = some (.ins C x.dx (flds x.r x.pz x.vz x.par m.off m.sz x.c)) := by
  have h := (g.o k x m hx hm).1
  rwa [upd_ne (g.aI hx)] at h
end
theorem ofs_step {xs : List Itm} {ms : List Mut} {i : Nat} {x : Itm} {m : Mut} (hx : xs[i]? = some x) (hm : (ofs xs ms i).2[i]? = some m) : ofs xs ms (i + 1) = (fun w => if w = x.par then (ofs xs ms i).1 x.par + m.sz * tms x.r else if w = x.r.nm then (ofs xs ms i).1 x.par else (ofs xs ms i).1 w, (ofs xs ms i).2.set i ⟨(ofs xs ms i).1 x.par, m.sz, m.ch⟩) := by
  show ofStep xs (ofs xs ms i) i = _
  unfold ofStep
  rw [hx, hm]
end ML
namespace ML
open PySem PySem.Spec PyProof.Rows L2
theorem ofs_sz (xs : List Itm) (ms : List Mut) : ∀ (i j : Nat) (m : Mut), (ofs xs ms i).2[j]? = some m → ∃ m0, ms[j]? = some m0 ∧ m.sz = m0.sz ∧ m.ch = m0.ch
  | 0, j, m, h => ⟨m, h, rfl, rfl⟩
  | i + 1, j, m, h => by
    have ih := ofs_sz xs ms i
    cases hx : xs[i]? with
    | none =>
      have e : ofs xs ms (i + 1) = ofs xs ms i := by
        show ofStep xs (ofs xs ms i) i = _
        unfold ofStep
        rw [hx]
      rw [e] at h
      exact ih j m h
    | some x =>
      cases hm : (ofs xs ms i).2[i]? with
      | none =>
        have e : ofs xs ms (i + 1) = ofs xs ms i := by
          show ofStep xs (ofs xs ms i) i = _
          unfold ofStep
          rw [hx, hm]
        rw [e] at h
        exact ih j m h
      | some n =>
        rw [ofs_step hx hm] at h
        rcases mset h with ⟨rfl, rfl⟩ | ⟨_, h⟩
        · exact ih _ n hm
        · exact ih j m h
theorem inr_S {a b : Tx} : ((Sum.inr (SX.S a) : Key) = Sum.inr (SX.S b)) ↔ a = b := ⟨fun h => SX.S_inj (Sum.inr.inj h), fun h => by rw [h]⟩
end ML
namespace ML
open PySem PySem.Spec PyProof.Rows L2
theorem Grp.off {K : PySem.W.Frag} {H : Hp} {C I q C' dx : Addr} {fs : List (Str × V)} {xs : List Itm} {ms : List Mut} {u : HO} (g : Grp K H C I xs ms) (hq : H q = some (.ins C' dx fs)) (n : ∀ x ∈ xs, x.a ≠ q) : Grp K (upd H q u) C I xs ms :=
  ⟨g.len, by rw [upd_ne (ne_of g.d hq (by intro z; cases z))]; exact g.d, fun j x m h1 h2 => ⟨by rw [upd_ne (n x (List.mem_of_getElem? h1))]; exact (g.o j x m h1 h2).1, by rw [upd_ne (ne_of (g.o j x m h1 h2).2 hq (by intro z; cases z))]; exact (g.o j x m h1 h2).2⟩, g.na, g.nc, g.nm,
    fun x hx => ⟨(g.v x hx).1.keep fun b us h => sqt_ins hq h, (g.v x hx).2.keep fun b us h => sqt_ins hq h⟩⟩
theorem Fresh.parTk {rs : List Row} {xs : List Itm} {ms : List Mut} (f : Fresh rs xs ms) {k : Nat} {x : Itm} (hk : xs[k]? = some x) : x.par = [] ∨ x.par ∈ (xs.take k).map fun x => x.r.nm := by
  rw [f.p k x hk]
  refine parN_mem.imp id fun z => ?_
  obtain ⟨o, ho, e⟩ := z
  have ho := path_mem o ho
  rw [← f.r, ← List.map_take] at ho
  obtain ⟨y, hy, rfl⟩ := List.mem_map.mp ho
  rw [← e]
  exact List.mem_map.mpr ⟨y, hy, rfl⟩
end ML

namespace ML
open PySem PySem.Spec PyProof.Rows L2
/-! ### levels -/
/-- the nearest place ahead of k with a lower number -/
def np (L : Nat → Nat) : Nat → Nat → Option Nat
  | 0, _ => none
  | k + 1, lv => if L k < lv then some k else np L k lv
theorem np_none {L : Nat → Nat} {lv : Nat} : ∀ {k : Nat}, np L k lv = none ↔ ∀ i < k, lv ≤ L i
  | 0 => ⟨fun _ i h => absurd h (Nat.not_lt_zero _), fun _ => rfl⟩
  | k + 1 => by
    show (if L k < lv then some k else np L k lv) = none ↔ _
    by_cases h : L k < lv
    · rw [if_pos h]
      exact ⟨(fun z => nomatch z), fun z => by have := z k (Nat.lt_succ_self k); omega⟩
    · rw [if_neg h, np_none (k := k)]
      exact ⟨fun z i hi => by
        by_cases e : i = k
        · subst e; omega
        · exact z i (by omega), fun z i hi => z i (by omega)⟩
theorem np_some {L : Nat → Nat} {lv p : Nat} : ∀ {k : Nat}, np L k lv = some p → p < k ∧ L p < lv ∧ ∀ i, p < i → i < k → lv ≤ L i
  | 0, h => by cases h
  | k + 1, h => by
    have h : (if L k < lv then some k else np L k lv) = some p := h
    by_cases c : L k < lv
    · rw [if_pos c] at h; cases h
      exact ⟨Nat.lt_succ_self _, c, fun i h1 h2 => by omega⟩
    · rw [if_neg c] at h
      obtain ⟨h1, h2, h3⟩ := np_some h
      refine ⟨by omega, h2, fun i h4 h5 => ?_⟩
      by_cases e : i = k
      · subst e; omega
      · exact h3 i h4 (by omega)
theorem np_mk {L : Nat → Nat} {lv p k : Nat} (h1 : p < k) (h2 : L p < lv) (h3 : ∀ i, p < i → i < k → lv ≤ L i) : np L k lv = some p := by
  cases e : np L k lv with
  | none => have := np_none.mp e p h1; omega
  | some q =>
    obtain ⟨g1, g2, g3⟩ := np_some e
    rcases Nat.lt_trichotomy p q with c | c | c
    · have := h3 q c g1; omega
    · rw [c]
    · have := g3 p c h1; omega
/-- the open places -/
def pis (L : Nat → Nat) : Nat → List Nat
  | 0 => []
  | k + 1 => (pis L k).filter (fun i => decide (L i < L k)) ++ [k]
theorem pis_mem {L : Nat → Nat} : ∀ {k i : Nat}, i ∈ pis L k ↔ i < k ∧ ∀ j, i < j → j < k → L i < L j
  | 0, i => by
    refine ⟨fun h => ?_, fun h => by omega⟩
    cases h
  | k + 1, i => by
    show i ∈ (pis L k).filter (fun i => decide (L i < L k)) ++ [k] ↔ _
    rw [List.mem_append, List.mem_filter, List.mem_singleton, pis_mem (k := k), decide_eq_true_eq]
    constructor
    · rintro (⟨⟨h1, h2⟩, h3⟩ | rfl)
      · refine ⟨by omega, fun j h4 h5 => ?_⟩
        by_cases e : j = k
        · rw [e]; exact h3
        · exact h2 j h4 (by omega)
      · exact ⟨by omega, fun j h4 h5 => by omega⟩
    · rintro ⟨h1, h2⟩
      by_cases e : i = k
      · exact .inr e
      · exact .inl ⟨⟨by omega, fun j h4 h5 => h2 j h4 (by omega)⟩, h2 k (by omega) (by omega)⟩
/-- the last of the least -/
theorem last_min (L : Nat → Nat) (a : Nat) : ∀ n, ∃ m, a ≤ m ∧ m < a + n + 1 ∧ (∀ i, a ≤ i → i < a + n + 1 → L m ≤ L i) ∧ ∀ i, m < i → i < a + n + 1 → L m < L i
  | 0 => ⟨a, Nat.le_refl _, by omega, fun i h1 h2 => by rw [show i = a by omega]; exact Nat.le_refl _, fun i h1 h2 => by omega⟩
  | n + 1 => by
    obtain ⟨m, h1, h2, h3, h4⟩ := last_min L a n
    by_cases c : L (a + n + 1) ≤ L m
    · refine ⟨a + n + 1, by omega, by omega, fun i g1 g2 => ?_, fun i g1 g2 => by omega⟩
      by_cases e : i = a + n + 1
      · rw [e]; exact Nat.le_refl _
      · have := h3 i g1 (by omega); omega
    · refine ⟨m, h1, by omega, fun i g1 g2 => ?_, fun i g1 g2 => ?_⟩
      · by_cases e : i = a + n + 1
        · rw [e]; omega
        · exact h3 i g1 (by omega)
      · by_cases e : i = a + n + 1
        · rw [e]; omega
        · exact h4 i g1 (by omega)
/-- the level that a law asks -/
def lawLv (L : Nat → Nat) (k lv : Nat) : Nat := match np L k lv with
  | none => 1
  | some p => if p + 1 = k then lv else L (p + 1)
theorem level_same {L : Nat → Nat} {k : Nat} (h : ∀ j < k, L j = lawLv L j (L j)) (lv : Nat) : (if k = 0 then lv = 1 else lv > L (k - 1) ∨ lv ∈ (pis L k).map L) ↔ lv = lawLv L k lv := by
  have mem : ∀ {x : Nat}, x ∈ (pis L k).map L ↔ ∃ i, (i < k ∧ ∀ j, i < j → j < k → L i < L j) ∧ L i = x := fun {x} => by
    rw [List.mem_map]
    exact ⟨fun ⟨i, h1, h2⟩ => ⟨i, pis_mem.mp h1, h2⟩, fun ⟨i, h1, h2⟩ => ⟨i, pis_mem.mpr h1, h2⟩⟩
  unfold lawLv
  cases e : np L k lv with
  | none =>
    have hlo := np_none.mp e
    by_cases k0 : k = 0
    · rw [if_pos k0]
    · rw [if_neg k0, mem]
      obtain ⟨m, h1, h2, h3, h4⟩ := last_min L 0 (k - 1)
      have hm := h m (by omega)
      have nm : np L m (L m) = none := np_none.mpr fun i hi => h3 i (Nat.zero_le _) (by omega)
      unfold lawLv at hm
      rw [nm] at hm
      have hm : L m = 1 := hm
      constructor
      · rintro (z | ⟨i, ⟨g1, g2⟩, rfl⟩)
        · have := hlo (k - 1) (by omega); omega
        · have a1 := hlo m (by omega)
          have a2 := h3 i (Nat.zero_le _) (by omega)
          show _ = 1
          omega
      · intro z
        have z : lv = 1 := z
        exact .inr ⟨m, ⟨by omega, fun j g1 g2 => h4 j g1 (by omega)⟩, by omega⟩
  | some p =>
    obtain ⟨p1, p2, p3⟩ := np_some e
    rw [if_neg (by omega), mem]
    dsimp only
    by_cases pk : p + 1 = k
    · rw [if_pos pk]
      exact ⟨fun _ => rfl, fun _ => .inl (by rw [show k - 1 = p by omega]; exact p2)⟩
    · rw [if_neg pk]
      obtain ⟨m, h1, h2, h3, h4⟩ := last_min L (p + 1) (k - p - 2)
      have hm := h m (by omega)
      have lm := p3 m (by omega) (by omega)
      have nm : np L m (L m) = some p := np_mk (by omega) (by omega) fun i g1 g2 => h3 i (by omega) (by omega)
      unfold lawLv at hm
      rw [nm] at hm
      have hm : L m = L (p + 1) := by
        dsimp only at hm
        by_cases c : p + 1 = m
        · rw [c]
        · rw [if_neg c] at hm; exact hm
      constructor
      · rintro (z | ⟨i, ⟨g1, g2⟩, rfl⟩)
        · have := p3 (k - 1) (by omega) (by omega); omega
        · rcases Nat.lt_trichotomy i p with c | c | c
          · have := g2 p c p1; omega
          · rw [c] at p2; omega
          · have a1 := h3 i (by omega) (by omega)
            omega
      · intro z
        exact .inr ⟨m, ⟨by omega, fun j g1 g2 => h4 j g1 (by omega)⟩, by omega⟩
end ML
namespace ML
open PySem PySem.Spec PyProof.Rows L2
/-! ### the open entries -/
def lvs (rs : List Row) (i : Nat) : Nat := match rs[i]? with | some r => r.lv | none => 0
theorem lvs_at {rs : List Row} {i : Nat} {r : Row} (h : rs[i]? = some r) : lvs rs i = r.lv := by unfold lvs; rw [h]
theorem path_pis {rs : List Row} : ∀ {k : Nat}, k ≤ rs.length → (pis (lvs rs) k).map (fun i => rs[i]?) = (pathOf (rs.take k)).map some
  | 0, _ => by rw [List.take_zero]; rfl
  | k + 1, h => by
    have ih := path_pis (rs := rs) (k := k) (by omega)
    have e := List.getElem?_eq_getElem (l := rs) (i := k) (by omega)
    rw [List.take_succ, e]
    show ((pis (lvs rs) k).filter (fun i => decide (lvs rs i < lvs rs k)) ++ [k]).map _ = (pathOf (rs.take k ++ [rs[k]])).map some
    rw [pathOf_snoc, List.map_append, List.map_append]
    congr 1
    · unfold below
      rw [lvs_at e]
      generalize pis (lvs rs) k = q at ih
      generalize pathOf (rs.take k) = p at ih
      induction q generalizing p with
      | nil =>
        cases p with
        | nil => rfl
        | cons x p => cases ih
      | cons i q ihq =>
        cases p with
        | nil => cases ih
        | cons x p =>
          rw [List.map_cons, List.map_cons] at ih
          obtain ⟨h1, h2⟩ := List.cons.inj ih
          have := ihq p h2
          rw [List.filter_cons, List.filter_cons, lvs_at h1]
          by_cases c : x.lv < rs[k].lv
          · rw [decide_eq_true c, if_pos rfl, if_pos rfl, List.map_cons, List.map_cons, this, h1]
          · rw [decide_eq_false c, if_neg Bool.false_ne_true, if_neg Bool.false_ne_true, this]
    · show [rs[k]?] = [some rs[k]]
      rw [e]
theorem path_lvs {rs : List Row} {k : Nat} (h : k ≤ rs.length) : (pathOf (rs.take k)).map (·.lv) = (pis (lvs rs) k).map (lvs rs) := by
  have := congrArg (List.map fun o : Option Row => match o with | some r => r.lv | none => 0) (path_pis h)
  rw [List.map_map, List.map_map] at this
  exact this.symm
theorem path_last {rs : List Row} {k : Nat} {r : Row} (h : rs[k]? = some r) : (pathOf (rs.take (k + 1))).getLast? = some r := by
  rw [List.take_succ, h]
  show (pathOf (rs.take k ++ [r])).getLast? = _
  rw [pathOf_snoc, List.getLast?_concat]
theorem right_iff {rs : List Row} {k : Nat} (hk : k ≤ rs.length) (lv : Nat) : right lv (pathOf (rs.take k)) = true ↔ (if k = 0 then lv = 1 else lv > lvs rs (k - 1) ∨ lv ∈ (pis (lvs rs) k).map (lvs rs)) := by
  cases k with
  | zero =>
    rw [if_pos rfl, List.take_zero]
    exact decide_eq_true_iff
  | succ k =>
    have e := List.getElem?_eq_getElem (l := rs) (i := k) (by omega)
    rw [if_neg (by omega), ← path_lvs hk]
    unfold right
    rw [path_last e, Nat.add_sub_cancel, lvs_at e, Bool.or_eq_true, decide_eq_true_iff, decide_eq_true_iff]
theorem below_below {a b : Nat} (h : a ≤ b) (p : List Row) : below b (below a p) = below a p := by
  unfold below
  rw [List.filter_filter]
  refine List.filter_congr fun x _ => ?_
  by_cases c : x.lv < a
  · rw [decide_eq_true c, decide_eq_true (show x.lv < b by omega)]; rfl
  · rw [decide_eq_false c, Bool.and_false]
theorem below_above {a b : Nat} (h : b ≤ a) (p : List Row) : below b (below a p) = below b p := by
  unfold below
  rw [List.filter_filter]
  refine List.filter_congr fun x _ => ?_
  by_cases c : x.lv < b
  · rw [decide_eq_true c, decide_eq_true (show x.lv < a by omega)]; rfl
  · rw [decide_eq_false c, Bool.false_and]
theorem below_snoc (lv : Nat) (p : List Row) (r : Row) : below lv (p ++ [r]) = below lv p ++ (if r.lv < lv then [r] else []) := by
  unfold below
  rw [List.filter_append]
  by_cases c : r.lv < lv <;> simp [c]
/-- the entries around an entry, the nearest first -/
def aroundF (rs : List Row) : Nat → Nat → List Row
  | 0, _ => []
  | k + 1, lv => match rs[k]? with
    | some r => if r.lv < lv then r :: aroundF rs k r.lv else aroundF rs k lv
    | none => aroundF rs k lv
theorem around_path {rs : List Row} : ∀ {k lv : Nat}, k ≤ rs.length → aroundF rs k lv = (below lv (pathOf (rs.take k))).reverse
  | 0, _, _ => by rw [List.take_zero]; rfl
  | k + 1, lv, h => by
    have e := List.getElem?_eq_getElem (l := rs) (i := k) (by omega)
    show (match rs[k]? with | some r => if r.lv < lv then r :: aroundF rs k r.lv else aroundF rs k lv | none => aroundF rs k lv) = _
    rw [e, List.take_succ, e]
    show _ = (below lv (pathOf (rs.take k ++ [rs[k]]))).reverse
    rw [pathOf_snoc, below_snoc]
    dsimp only
    by_cases c : rs[k].lv < lv
    · rw [if_pos c, if_pos c, below_below (by omega), List.reverse_append, around_path (by omega)]; rfl
    · rw [if_neg c, if_neg c, below_above (by omega), List.append_nil, around_path (by omega)]
/-- the chain of groups of an entry is the path behind its parent -/
theorem below_path {rs : List Row} : ∀ {k lv : Nat}, k ≤ rs.length → below lv (pathOf (rs.take k)) = (match np (lvs rs) k lv with | none => [] | some p => pathOf (rs.take (p + 1)))
  | 0, _, _ => by rw [List.take_zero]; rfl
  | k + 1, lv, h => by
    have e := List.getElem?_eq_getElem (l := rs) (i := k) (by omega)
    have et : rs.take (k + 1) = rs.take k ++ [rs[k]] := by rw [List.take_succ, e]; rfl
    show _ = (match (if lvs rs k < lv then some k else np (lvs rs) k lv) with | none => [] | some p => pathOf (rs.take (p + 1)))
    rw [lvs_at e]
    by_cases c : rs[k].lv < lv
    · rw [if_pos c]
      dsimp only
      rw [et, pathOf_snoc, below_snoc, if_pos c, below_below (by omega)]
    · rw [if_neg c, et, pathOf_snoc, below_snoc, if_neg c, List.append_nil, below_above (by omega), below_path (by omega)]
end ML

namespace ML
open PySem PySem.Spec PyProof.Rows L2
def picD : Option MR.Res → PyData
  | none => .none
  | some x => .tuple x.ds
def valD : Val → PyData
  | .non => .none
  | .txt t => .str (SX.S t)
  | .dec u s => .tuple [.int u, .int (s : Int)]
def Row.d (r : Row) : PyData := .tuple [.int (r.lv : Int), .str (SX.S r.nm), picD r.pc, .int (r.tm : Int), valD r.vl]
theorem PicV.dp {K : PySem.W.Frag} {H : Hp} {v : V} : ∀ {p : Option MR.Res}, PicV K H v p → Dp K H v (picD p)
  | none, h => by cases h; exact .non
  | some x, h => by obtain ⟨a, rfl, g⟩ := h; exact .tup g (MR.Res.dp x)
theorem ValV.dp {K : PySem.W.Frag} {H : Hp} {v : V} : ∀ {p : Val}, ValV K H v p → Dp K H v (valD p)
  | .non, h => by cases h; exact .non
  | .txt t, h => by cases h; exact .str _
  | .dec u s, h => by obtain ⟨a, rfl, g⟩ := h; exact WP.dpv g
theorem RowAt.dp {K : PySem.W.Frag} {H : Hp} {v : V} {r : Row} (h : RowAt K H v r) : Dp K H v r.d := by
  obtain ⟨a, pv, vv, rfl, g, h1, h2⟩ := h
  exact .tup g (.cons (.int _) (.cons (.str _) (.cons h1.dp (.cons (.int _) (.cons h2.dp .nil)))))
theorem res_lt {r : MR.Res} (h : ∀ q, r = .pic q → q.Ok) : r.Lt := by
  cases r with
  | txt n => trivial
  | pic q =>
    cases q with
    | num sg w f => trivial
    | ed b w f s =>
      have h := h _ rfl
      refine ⟨fun c hc => ?_, (show ∀ s ∈ MP.signs, ∀ c ∈ s, c < 128 by decide) s h.2.2.2⟩
      have := h.2.2.1.ok c hc
      have : (c = 122 ∨ c = 42 ∨ c = 57) ∨ c = 46 ∨ c = 44 ∨ c = 98 ∨ c = 48 ∨ c = 47 := by simpa [MP.okM, MP.isD, MP.isI, or_assoc] using this
      omega
theorem Row.lay {r : Row} (h1 : ∀ c ∈ r.nm, c < 128) (h2 : ∀ x, r.pc = some x → ∀ q, x = .pic q → q.Ok) (h3 : ∀ t, r.vl = .txt t → ∀ c ∈ t, c < 128) : r.d.canLay0 = true := by
  have a1 : (PyData.str (SX.S r.nm)).canLay0 = true := WP.sok_S fun c hc => Nat.lt_trans (h1 c hc) (by decide)
  have a2 : (picD r.pc).canLay0 = true := by
    cases e : r.pc with
    | none => rfl
    | some x => exact MR.Res.lay (res_lt (h2 x e))
  have a3 : (valD r.vl).canLay0 = true := by
    cases e : r.vl with
    | non => rfl
    | txt t => exact WP.sok_S fun c hc => Nat.lt_trans (h3 t e c hc) (by decide)
    | dec u s => rfl
  show (true && ((PyData.str (SX.S r.nm)).canLay0 && ((picD r.pc).canLay0 && (true && ((valD r.vl).canLay0 && true))))) = true
  rw [a1, a2, a3]; rfl
theorem depthR (x : MR.Res) : PyData.depth (.tuple x.ds) ≤ 3 := by
  cases x with
  | txt n => exact Nat.le_of_ble_eq_true rfl
  | pic q => cases q <;> exact Nat.le_of_ble_eq_true rfl
theorem Row.sh {r : Row} (h1 : ∀ c ∈ r.nm, c < 128) (h2 : ∀ x, r.pc = some x → ∀ q, x = .pic q → q.Ok) (h3 : ∀ t, r.vl = .txt t → ∀ c ∈ t, c < 128) : SeqAt.shaped r.d = true := by
  refine MR.and2 (Row.lay h1 h2 h3) (decide_eq_true ?_)
  have a2 : PyData.depth (picD r.pc) ≤ 3 := by
    cases e : r.pc with
    | none => exact Nat.le_of_ble_eq_true rfl
    | some x => exact depthR x
  have a3 : PyData.depth (valD r.vl) ≤ 3 := by
    cases e : r.vl with
    | non => exact Nat.le_of_ble_eq_true rfl
    | txt t => exact Nat.le_of_ble_eq_true rfl
    | dec u s => exact Nat.le_of_ble_eq_true rfl
  have a4 : PyData.depth (.int (r.lv : Int)) ≤ 3 := Nat.le_of_ble_eq_true rfl
  have a5 : PyData.depth (.int (r.tm : Int)) ≤ 3 := Nat.le_of_ble_eq_true rfl
  have a6 : PyData.depth (.str (SX.S r.nm)) ≤ 3 := Nat.le_of_ble_eq_true rfl
  show PyData.depth (.tuple [_, _, _, _, _]) ≤ _
  simp only [PyData.depth, PyData.depthAll]
  simp only [PyData.depth] at a4 a5 a6
  omega
theorem around_head {rs : List Row} : ∀ {k lv : Nat}, k ≤ rs.length → (aroundF rs k lv).head? = (np (lvs rs) k lv).bind fun p => rs[p]?
  | 0, _, _ => rfl
  | k + 1, lv, h => by
    have e := List.getElem?_eq_getElem (l := rs) (i := k) (by omega)
    show (match rs[k]? with | some r => if r.lv < lv then r :: aroundF rs k r.lv else aroundF rs k lv | none => aroundF rs k lv).head? = (if lvs rs k < lv then some k else np (lvs rs) k lv).bind _
    rw [lvs_at e, e]
    dsimp only
    by_cases c : rs[k].lv < lv
    · rw [if_pos c, if_pos c, Option.bind_some, e]; rfl
    · rw [if_neg c, if_neg c]; exact around_head (by omega)
end ML

namespace ML
open PySem PySem.Spec PyProof.Rows L2
/-! ### the law's judgement of an entry -/
def lawFlt (rs : List Row) (k : Nat) (r : Row) : Tx :=
  if r.lv ≠ lawLv (lvs rs) k r.lv then LEVEL
  else if r.nm ∈ nmsOf (rs.take k) then NAME
  else if 0 < r.tm ∧ (aroundF rs k r.lv = [] ∨ 1 < dims (aroundF rs k r.lv)) then OCCURS
  else if badVal r.pc r.vl = true then VALUE
  else if decide (r.lv < nxl rs k) = r.pc.isSome then GROUP
  else []
theorem fault_nil {names : List Tx} {p : List Row} {r : Row} {nl : Nat} (h : fault names p r nl = []) : right r.lv p = true ∧ r.nm ∉ names ∧ ¬ (0 < r.tm ∧ (below r.lv p = [] ∨ dims (below r.lv p) = 2)) ∧ badVal r.pc r.vl = false ∧ ¬ decide (r.lv < nl) = r.pc.isSome := by
  unfold fault at h
  by_cases c1 : right r.lv p = false
  · rw [if_pos c1] at h; cases h
  rw [if_neg c1] at h
  by_cases c2 : r.nm ∈ names
  · rw [if_pos c2] at h; cases h
  rw [if_neg c2] at h
  by_cases c3 : 0 < r.tm ∧ (below r.lv p = [] ∨ dims (below r.lv p) = 2)
  · rw [if_pos c3] at h; cases h
  rw [if_neg c3] at h
  by_cases c4 : badVal r.pc r.vl = true
  · rw [if_pos c4] at h; cases h
  rw [if_neg c4] at h
  by_cases c5 : decide (r.lv < nl) = r.pc.isSome
  · rw [if_pos c5] at h; cases h
  exact ⟨(by cases e : right r.lv p with | true => rfl | false => exact absurd e c1), c2, c3, (by cases e : badVal r.pc r.vl with | false => rfl | true => exact absurd e c4), c5⟩
def okTo (rs : List Row) (k : Nat) : Prop := ∀ (j : Nat) (r : Row), j < k → rs[j]? = some r → flt rs j r = []
theorem lev_ok {rs : List Row} : ∀ {k : Nat}, k ≤ rs.length → okTo rs k → ∀ j < k, lvs rs j = lawLv (lvs rs) j (lvs rs j)
  | 0, _, _, j, h => absurd h (Nat.not_lt_zero _)
  | k + 1, hk, h, j, hj => by
    have ih := lev_ok (k := k) (by omega) (fun j r a b => h j r (by omega) b)
    by_cases c : j = k
    · subst c
      have e := List.getElem?_eq_getElem (l := rs) (i := j) (by omega)
      have h1 := (fault_nil (h j _ (Nat.lt_succ_self _) e)).1
      rw [← lvs_at e] at h1
      exact (level_same ih _).mp ((right_iff (by omega) _).mp h1)
    · exact ih j (by omega)
theorem dims_app (p q : List Row) : dims (p ++ q) = dims p + dims q := by unfold dims; rw [List.filter_append, List.length_append]
theorem dims_below (lv : Nat) (p : List Row) : dims (below lv p) ≤ dims p := by
  unfold dims below
  rw [List.filter_filter]
  refine List.Sublist.length_le ?_
  induction p with
  | nil => exact .slnil
  | cons x t ih =>
    rw [List.filter_cons, List.filter_cons]
    by_cases c : 0 < x.tm
    · rw [decide_eq_true c]
      by_cases d : x.lv < lv
      · rw [decide_eq_true d]; exact ih.cons₂ _
      · rw [decide_eq_false d]; exact ih.cons _
    · rw [decide_eq_false c]; exact ih
theorem dims_ok {rs : List Row} : ∀ {k : Nat}, k ≤ rs.length → okTo rs k → dims (pathOf (rs.take k)) ≤ 2
  | 0, _, _ => by rw [List.take_zero]; exact Nat.zero_le _
  | k + 1, hk, h => by
    have ih := dims_ok (k := k) (by omega) (fun j r a b => h j r (by omega) b)
    have e := List.getElem?_eq_getElem (l := rs) (i := k) (by omega)
    have h3 := (fault_nil (h k _ (Nat.lt_succ_self _) e)).2.2.1
    have hb := dims_below rs[k].lv (pathOf (rs.take k))
    rw [List.take_succ, e]
    show dims (pathOf (rs.take k ++ [rs[k]])) ≤ 2
    rw [pathOf_snoc, dims_snoc]
    by_cases c : 0 < rs[k].tm
    · rw [if_pos c]
      have : ¬ dims (below rs[k].lv (pathOf (rs.take k))) = 2 := fun z => h3 ⟨c, .inr z⟩
      omega
    · rw [if_neg c]; omega
theorem law_flt {rs : List Row} {k : Nat} {r : Row} (h : okTo rs k) (hr : rs[k]? = some r) : lawFlt rs k r = flt rs k r := by
  have hk := (List.getElem?_eq_some_iff.mp hr).1
  have h1 : right r.lv (pathOf (rs.take k)) = false ↔ r.lv ≠ lawLv (lvs rs) k r.lv := by
    rw [← Bool.not_eq_true]
    exact not_congr ((right_iff (by omega) _).trans (level_same (lev_ok (by omega) h) _))
  have h2 := around_path (rs := rs) (k := k) (lv := r.lv) (by omega)
  have h3 : aroundF rs k r.lv = [] ↔ below r.lv (pathOf (rs.take k)) = [] := by rw [h2]; exact List.reverse_eq_nil_iff
  have h4 : dims (aroundF rs k r.lv) = dims (below r.lv (pathOf (rs.take k))) := by rw [h2]; unfold dims; rw [List.filter_reverse, List.length_reverse]
  have h5 := Nat.le_trans (dims_below r.lv _) (dims_ok (Nat.le_of_lt hk) h)
  have h6 : 1 < dims (below r.lv (pathOf (rs.take k))) ↔ dims (below r.lv (pathOf (rs.take k))) = 2 ∨ 2 < dims (below r.lv (pathOf (rs.take k))) := by omega
  unfold lawFlt flt fault
  rw [h4]
  have h7 : (0 < r.tm ∧ (aroundF rs k r.lv = [] ∨ 1 < dims (below r.lv (pathOf (rs.take k))))) ↔ (0 < r.tm ∧ (below r.lv (pathOf (rs.take k)) = [] ∨ dims (below r.lv (pathOf (rs.take k))) = 2)) ∨ (0 < r.tm ∧ 2 < dims (below r.lv (pathOf (rs.take k)))) := by
    rw [h3, h6]
    constructor
    · rintro ⟨a, b | b | b⟩
      · exact .inl ⟨a, .inl b⟩
      · exact .inl ⟨a, .inr b⟩
      · exact .inr ⟨a, b⟩
    · rintro (⟨a, b | b⟩ | ⟨a, b⟩)
      · exact ⟨a, .inl b⟩
      · exact ⟨a, .inr (.inl b)⟩
      · exact ⟨a, .inr (.inr b)⟩
  by_cases c1 : r.lv ≠ lawLv (lvs rs) k r.lv
  · rw [if_pos c1, if_pos (h1.mpr c1)]
  rw [if_neg c1, if_neg (fun z => c1 (h1.mp z))]
  by_cases c2 : r.nm ∈ nmsOf (rs.take k)
  · rw [if_pos c2, if_pos c2]
  rw [if_neg c2, if_neg c2]
  by_cases c3 : 0 < r.tm ∧ (below r.lv (pathOf (rs.take k)) = [] ∨ dims (below r.lv (pathOf (rs.take k))) = 2)
  · rw [if_pos c3, if_pos (h7.mpr (.inl c3))]
  · rw [if_neg c3, if_neg (fun z => (h7.mp z).elim c3 (fun w => by omega))]
theorem first_flt (rs : List Row) : ∀ n, okTo rs n ∨ ∃ (k : Nat) (r : Row), k < n ∧ rs[k]? = some r ∧ flt rs k r ≠ [] ∧ okTo rs k
  | 0 => .inl fun j r h _ => absurd h (Nat.not_lt_zero _)
  | n + 1 => by
    rcases first_flt rs n with h | ⟨k, r, h1, h2⟩
    · by_cases c : ∀ r, rs[n]? = some r → flt rs n r = []
      · refine .inl fun j r hj hr => ?_
        by_cases e : j = n
        · subst e; exact c r hr
        · exact h j r (by omega) hr
      · have ⟨r, hr⟩ := Classical.not_forall.mp c
        have ⟨h1, h2⟩ := Classical.not_imp.mp hr
        exact .inr ⟨n, r, Nat.lt_succ_self n, h1, h2, h⟩
    · exact .inr ⟨k, r, by omega, h2⟩
/-- the first reason and its name -/
structure Told (rs : List Row) (v w : Tx) : Prop where
  f : ∀ (k : Nat) (r : Row), rs[k]? = some r → flt rs k r ≠ [] → okTo rs k → v = flt rs k r ∧ w = r.nm
  n : okTo rs rs.length → v = [] ∧ w = []
theorem flt_lt (rs : List Row) (k : Nat) (r : Row) : ∀ c ∈ flt rs k r, c < 128 := by
  have : ∀ (b1 b2 b3 b4 b5 : Prop) [Decidable b1] [Decidable b2] [Decidable b3] [Decidable b4] [Decidable b5], ∀ c ∈ (if b1 then LEVEL else if b2 then NAME else if b3 then OCCURS else if b4 then VALUE else if b5 then GROUP else []), c < 128 := by
    intro b1 b2 b3 b4 b5 _ _ _ _ _
    by_cases c1 : b1
    · rw [if_pos c1]; decide
    rw [if_neg c1]
    by_cases c2 : b2
    · rw [if_pos c2]; decide
    rw [if_neg c2]
    by_cases c3 : b3
    · rw [if_pos c3]; decide
    rw [if_neg c3]
    by_cases c4 : b4
    · rw [if_pos c4]; decide
    rw [if_neg c4]
    by_cases c5 : b5
    · rw [if_pos c5]; decide
    rw [if_neg c5]; decide
  exact this _ _ _ _ _
theorem told_ex {rs : List Row} (h : ∀ r ∈ rs, ∀ c ∈ r.nm, c < 128) : ∃ v w, Told rs v w ∧ (∀ c ∈ v, c < 128) ∧ ∀ c ∈ w, c < 128 := by
  rcases first_flt rs rs.length with a | ⟨k, r, h1, h2, h3, h4⟩
  · exact ⟨[], [], ⟨fun k r hr hf _ => absurd (a k r (List.getElem?_eq_some_iff.mp hr).1 hr) hf, fun _ => ⟨rfl, rfl⟩⟩, by simp, by simp⟩
  · refine ⟨flt rs k r, r.nm, ⟨fun j o hj hf ho => ?_, fun a => absurd (a k r h1 h2) h3⟩, flt_lt _ _ _, h r (List.mem_of_getElem? h2)⟩
    rcases Nat.lt_trichotomy j k with c | c | c
    · exact absurd (h4 j o c hj) hf
    · subst c; rw [h2] at hj; cases hj; exact ⟨rfl, rfl⟩
    · exact absurd (ho k r c h2) h3
/-- the rows of a storage that is too great -/
def great (n : Nat) : List Row := [⟨1, [97], none, 0, .non⟩, ⟨2, [98], none, 50, .non⟩, ⟨3, [99], some (.txt n), 2, .non⟩]
theorem great_ok (n : Nat) : okTo (great n) 3 := fun j r h hr => by
  rcases (by omega : j = 0 ∨ j = 1 ∨ j = 2) with e | e | e <;> subst e <;> cases hr <;> rfl
end ML

namespace ML
open PySem PySem.Spec PyProof.Rows L2
/-! ### sums -/
def sm (f : Nat → Nat) : Nat → Nat
  | 0 => 0
  | n + 1 => sm f n + f n
theorem sm_congr {f g : Nat → Nat} : ∀ {n : Nat}, (∀ k < n, f k = g k) → sm f n = sm g n
  | 0, _ => rfl
  | n + 1, h => by
    show sm f n + f n = sm g n + g n
    rw [sm_congr (fun k hk => h k (by omega)), h n (by omega)]
theorem sm_le {f g : Nat → Nat} : ∀ {n : Nat}, (∀ k < n, f k ≤ g k) → sm f n ≤ sm g n
  | 0, _ => Nat.le_refl _
  | n + 1, h => by
    have := sm_le (f := f) (g := g) (n := n) (fun k hk => h k (by omega))
    have := h n (by omega)
    show sm f n + f n ≤ sm g n + g n
    omega
theorem sm_mem {f : Nat → Nat} : ∀ {n k : Nat}, k < n → f k ≤ sm f n
  | n + 1, k, h => by
    show _ ≤ sm f n + f n
    by_cases e : k = n
    · subst e; omega
    · have := sm_mem (f := f) (n := n) (k := k) (by omega); omega
theorem sm_upd {f g : Nat → Nat} {p : Nat} : ∀ {n : Nat}, p < n → (∀ k < n, k ≠ p → f k = g k) → sm f n + g p = sm g n + f p
  | n + 1, h, e => by
    show sm f n + f n + g p = sm g n + g n + f p
    by_cases c : p = n
    · subst c
      rw [sm_congr (f := f) (g := g) (n := p) fun k hk => e k (by omega) (by omega)]
      omega
    · have := sm_upd (f := f) (g := g) (n := n) (by omega) (fun k hk => e k (by omega))
      rw [e n (by omega) (by omega)]
      omega
theorem sm_const {f : Nat → Nat} {c : Nat} : ∀ {n : Nat}, (∀ k < n, f k ≤ c) → sm f n ≤ n * c
  | 0, _ => Nat.zero_le _
  | n + 1, h => by
    have := sm_const (f := f) (n := n) (fun k hk => h k (by omega))
    have := h n (by omega)
    show sm f n + f n ≤ _
    rw [Nat.succ_mul]
    omega
/-! ### sizes go up from the last entry to the first -/
section
variable (Q : Nat → Option Nat) (T P : Nat → Nat) (n : Nat)
def W (i k : Nat) : Nat := if k + i < n then P k else match Q k with | none => T k | some _ => 0
variable {Q T P n}
theorem flow (hQ : ∀ k p, Q k = some p → p < k) (hP : ∀ k, P k = (match Q k with | none => 1 | some p => P p) * T k) (hT : ∀ k, 1 ≤ T k)
    {z : Nat → Nat → Nat} (hz : ∀ i j, z (i + 1) j = match Q (n - 1 - i) with | none => z i j | some p => if j = p then z i p + z i (n - 1 - i) * T (n - 1 - i) else z i j) :
    ∀ i, i ≤ n → sm (fun k => W Q T P n i k * z i k) n = sm (fun k => P k * z 0 k) n
  | 0, _ => sm_congr fun k hk => by unfold W; rw [if_pos (by omega)]
  | i + 1, hi => by
    rw [← flow hQ hP hT hz i (by omega)]
    have hk : n - 1 - i < n := by omega
    have e1 : n - 1 - i + i < n := by omega
    have e2 : ¬ n - 1 - i + (i + 1) < n := by omega
    have hzi := hz i
    generalize hkk : n - 1 - i = k at *
    have wne : ∀ j, j ≠ k → W Q T P n (i + 1) j = W Q T P n i j := fun j hj => by
      unfold W
      by_cases c : j + i < n
      · rw [if_pos c, if_pos (by omega)]
      · rw [if_neg c, if_neg (by omega)]
    cases hq : Q k with
    | none =>
      rw [hq] at hzi
      refine sm_congr fun j hj => ?_
      skip
      rw [hzi j]
      by_cases c : j = k
      · subst c
        have hp := hP j
        rw [hq] at hp
        dsimp only at hp
        unfold W
        rw [if_neg e2, if_pos e1, hq, hp, Nat.one_mul]
      · rw [wne j c]
    | some p =>
      rw [hq] at hzi
      have pk := hQ k p hq
      have hp := hP k
      rw [hq] at hp
      dsimp only at hp hzi
      have wk : W Q T P n (i + 1) k = 0 := by unfold W; rw [if_neg e2, hq]
      have wk0 : W Q T P n i k = P k := by unfold W; rw [if_pos e1]
      have wp : W Q T P n (i + 1) p = P p := by unfold W; rw [if_pos (by omega)]
      have wp0 : W Q T P n i p = P p := by unfold W; rw [if_pos (by omega)]
      -- first the parent, then the entry
      let g : Nat → Nat := fun j => if j = p then P p * (z i p + z i k * T k) else W Q T P n i j * z i j
      have s1 := sm_upd (f := fun j => W Q T P n (i + 1) j * z (i + 1) j) (g := g) (p := k) (n := n) hk (fun j hj hn => by
        show _ = g j
        dsimp only [g]
        by_cases c : j = p
        · subst c; rw [if_pos rfl, wp, hzi, if_pos rfl]
        · rw [if_neg c, wne j hn, hzi, if_neg c])
      have s2 := sm_upd (f := g) (g := fun j => W Q T P n i j * z i j) (p := p) (n := n) (by omega) (fun j hj hn => by
        show g j = _
        dsimp only [g]
        rw [if_neg hn])
      have g1 : g k = P k * z i k := by dsimp only [g]; rw [if_neg (by omega), wk0]
      have g2 : g p = P p * (z i p + z i k * T k) := by dsimp only [g]; rw [if_pos rfl]
      rw [g1, wk, Nat.zero_mul] at s1
      rw [g2, wp0, Nat.mul_add] at s2
      have e3 : P k * z i k = P p * (z i k * T k) := by rw [hp, Nat.mul_assoc, Nat.mul_comm (T k)]
      rw [e3] at s1
      skip
      omega
theorem flow_le (hQ : ∀ k p, Q k = some p → p < k) (hP : ∀ k, P k = (match Q k with | none => 1 | some p => P p) * T k) (hT : ∀ k, 1 ≤ T k)
    {z : Nat → Nat → Nat} (hz : ∀ i j, z (i + 1) j = match Q (n - 1 - i) with | none => z i j | some p => if j = p then z i p + z i (n - 1 - i) * T (n - 1 - i) else z i j) (hP1 : ∀ k, 1 ≤ P k) :
    ∀ i j, j < n → z i j ≤ sm (fun k => P k * z 0 k) n
  | 0, j, hj => Nat.le_trans (Nat.le_mul_of_pos_left _ (hP1 j)) (sm_mem (f := fun k => P k * z 0 k) hj)
  | i + 1, j, hj => by
    have ih := flow_le hQ hP hT hz hP1 i j hj
    have hzi := hz i j
    cases hq : Q (n - 1 - i) with
    | none => rw [hq] at hzi; dsimp only at hzi; rw [hzi]; exact ih
    | some p =>
      rw [hq] at hzi
      have hzi : z (i + 1) j = if j = p then z i p + z i (n - 1 - i) * T (n - 1 - i) else z i j := hzi
      by_cases c : j = p
      · subst c
        have lt := hQ _ _ hq
        have hi : i + 1 ≤ n := by omega
        rw [← flow hQ hP hT hz (i + 1) hi]
        have := sm_mem (f := fun k => W Q T P n (i + 1) k * z (i + 1) k) hj
        have wj : W Q T P n (i + 1) j = P j := by unfold W; rw [if_pos (by omega)]
        skip
        rw [wj] at this
        exact Nat.le_trans (Nat.le_mul_of_pos_left _ (hP1 j)) this
      · rw [if_neg c] at hzi; rw [hzi]; exact ih
end
end ML

namespace ML
open PySem PySem.Spec PyProof.Rows L2
def prodT : List Row → Nat
  | [] => 1
  | r :: p => tms r * prodT p
theorem prodT_app (p q : List Row) : prodT (p ++ q) = prodT p * prodT q := by
  induction p with
  | nil => exact (Nat.one_mul _).symm
  | cons x p ih =>
    show tms x * prodT (p ++ q) = tms x * prodT p * prodT q
    rw [ih, Nat.mul_assoc]
theorem tms_pos (r : Row) : 1 ≤ tms r := Nat.le_max_left _ _
theorem prodT_pos : ∀ p, 1 ≤ prodT p
  | [] => Nat.le_refl _
  | r :: p => Nat.le_trans (Nat.le_of_eq (Nat.one_mul 1).symm) (Nat.mul_le_mul (tms_pos r) (prodT_pos p))
theorem prodT_le : ∀ {p : List Row}, (∀ r ∈ p, r.tm ≤ 3) → prodT p ≤ 3 ^ dims p
  | [], _ => Nat.le_refl _
  | r :: p, h => by
    have ih := prodT_le (p := p) fun x hx => h x (List.mem_cons_of_mem _ hx)
    have h3 := h r List.mem_cons_self
    have e : dims (r :: p) = dims p + (if 0 < r.tm then 1 else 0) := by
      show dims ([r] ++ p) = _
      rw [dims_app, Nat.add_comm]
      congr 1
      by_cases c : 0 < r.tm
      · rw [if_pos c]; unfold dims; rw [List.filter_cons, if_pos (by rw [decide_eq_true c])]; rfl
      · rw [if_neg c]; unfold dims; rw [List.filter_cons, if_neg (by rw [decide_eq_false c]; decide)]; rfl
    rw [e]
    show tms r * prodT p ≤ _
    by_cases c : 0 < r.tm
    · rw [if_pos c, Nat.pow_succ, Nat.mul_comm]
      exact Nat.mul_le_mul ih (by unfold tms; omega)
    · rw [if_neg c, Nat.add_zero, show tms r = 1 by unfold tms; omega, Nat.one_mul]
      exact ih
def Qr (rs : List Row) (k : Nat) : Option Nat := if k < rs.length then np (lvs rs) k (lvs rs k) else none
def Tr (rs : List Row) (k : Nat) : Nat := match rs[k]? with | some r => tms r | none => 1
def Pr (rs : List Row) (k : Nat) : Nat := if k < rs.length then prodT (pathOf (rs.take (k + 1))) else Tr rs k
def szR (rs : List Row) (k : Nat) : Nat := match rs[k]? with | some r => isz r.pc | none => 0
def wsum (rs : List Row) : Nat := sm (fun k => Pr rs k * szR rs k) rs.length
theorem Qr_lt {rs : List Row} {k p : Nat} (h : Qr rs k = some p) : p < k ∧ k < rs.length ∧ np (lvs rs) k (lvs rs k) = some p := by
  unfold Qr at h
  by_cases c : k < rs.length
  · rw [if_pos c] at h; exact ⟨(np_some h).1, c, h⟩
  · rw [if_neg c] at h; cases h
theorem Tr_pos (rs : List Row) (k : Nat) : 1 ≤ Tr rs k := by
  unfold Tr
  split
  · exact tms_pos _
  · exact Nat.le_refl _
theorem Pr_pos (rs : List Row) (k : Nat) : 1 ≤ Pr rs k := by
  unfold Pr
  split
  · exact prodT_pos _
  · exact Tr_pos _ _
theorem take_path {rs : List Row} {k : Nat} {r : Row} (h : rs[k]? = some r) : pathOf (rs.take (k + 1)) = below r.lv (pathOf (rs.take k)) ++ [r] := by
  rw [List.take_succ, h]
  exact pathOf_snoc _ _
theorem Pr_rec (rs : List Row) (k : Nat) : Pr rs k = (match Qr rs k with | none => 1 | some p => Pr rs p) * Tr rs k := by
  by_cases c : k < rs.length
  · have e := List.getElem?_eq_getElem (l := rs) (i := k) c
    have h1 : Pr rs k = prodT (below rs[k].lv (pathOf (rs.take k))) * tms rs[k] := by
      unfold Pr
      rw [if_pos c, take_path e, prodT_app]
      congr 1
      exact Nat.mul_one _
    have h2 : Tr rs k = tms rs[k] := by unfold Tr; rw [e]
    rw [h1, h2, below_path (by omega)]
    congr 1
    unfold Qr
    rw [if_pos c, lvs_at e]
    cases h : np (lvs rs) k rs[k].lv with
    | none => rfl
    | some p =>
      have := np_some h
      show prodT _ = Pr rs p
      unfold Pr
      rw [if_pos (by omega)]
  · unfold Pr Qr
    rw [if_neg c, if_neg c]
    exact (Nat.one_mul _).symm
def szA (ms : List Mut) (k : Nat) : Nat := match ms[k]? with | some m => m.sz | none => 0
section
variable {rs : List Row} {xs : List Itm} {ms : List Mut}
/-- the parent's name -/
theorem par_of (f : Fresh rs xs ms) {k : Nat} {x : Itm} (hx : xs[k]? = some x) : rs[k]? = some x.r ∧ x.par = (match Qr rs k with | none => [] | some p => match rs[p]? with | some o => o.nm | none => []) := by
  have hr : rs[k]? = some x.r := by rw [← f.r, List.getElem?_map, hx]; rfl
  have hk := (List.getElem?_eq_some_iff.mp hr).1
  refine ⟨hr, ?_⟩
  rw [f.p k x hx]
  unfold parN Qr
  rw [if_pos hk, lvs_at hr, below_path (by omega)]
  cases h : np (lvs rs) k x.r.lv with
  | none => rfl
  | some p =>
    have hp := np_some h
    have e := List.getElem?_eq_getElem (l := rs) (i := p) (by omega)
    dsimp only
    rw [path_last e, e]
theorem pix_of (nd : (xs.map fun x => x.r.nm).Nodup) {p : Nat} {o : Itm} (h : xs[p]? = some o) : pix xs o.r.nm = p := by
  obtain ⟨y, hy, e⟩ := pix_at nd (List.mem_map.mpr ⟨o, List.mem_of_getElem? h, rfl⟩)
  exact nodup_at nd hy h e
theorem szA_step (f : Fresh rs xs ms) (nd : (xs.map fun x => x.r.nm).Nodup) (ne : ∀ r ∈ rs, r.nm ≠ []) {mm : List Mut} (hl : mm.length = rs.length) (k j : Nat) :
    szA (szStep xs mm k) j = match Qr rs k with | none => szA mm j | some p => if j = p then szA mm p + szA mm k * Tr rs k else szA mm j := by
  have lx := f.len
  by_cases c : k < rs.length
  · have ex := List.getElem?_eq_getElem (l := xs) (i := k) (by omega)
    have em := List.getElem?_eq_getElem (l := mm) (i := k) (by omega)
    obtain ⟨hr, hp⟩ := par_of f ex
    unfold szStep
    rw [ex, em]
    dsimp only
    cases h : Qr rs k with
    | none =>
      rw [h] at hp
      rw [if_pos hp]
    | some p =>
      obtain ⟨p1, p2, _⟩ := Qr_lt h
      have er := List.getElem?_eq_getElem (l := rs) (i := p) (by omega)
      have exp := List.getElem?_eq_getElem (l := xs) (i := p) (by omega)
      have emp := List.getElem?_eq_getElem (l := mm) (i := p) (by omega)
      rw [h] at hp
      dsimp only at hp
      rw [er] at hp
      dsimp only at hp
      have ero : rs[p] = xs[p].r := by
        have := (par_of f exp).1
        rw [er] at this
        exact Option.some.inj this
      rw [if_neg (by rw [hp]; exact ne _ (List.mem_of_getElem? er)), hp, ero, pix_of nd exp, emp]
      dsimp only
      have t : Tr rs k = tms xs[k].r := by unfold Tr; rw [hr]
      by_cases d : j = p
      · subst d
        rw [if_pos rfl]
        unfold szA
        rw [List.getElem?_set_self (by omega), emp, em, t]
      · rw [if_neg d]
        unfold szA
        rw [List.getElem?_set_ne (Ne.symm d)]
  · have ex : xs[k]? = none := List.getElem?_eq_none_iff.mpr (by omega)
    have h : Qr rs k = none := by unfold Qr; rw [if_neg c]
    rw [h]
    unfold szStep
    rw [ex]
theorem tot_ofs (f : Fresh rs xs ms) (ne : ∀ r ∈ rs, r.nm ≠ []) {mm : List Mut} (hl : mm.length = rs.length) : ∀ i, i ≤ rs.length → (ofs xs mm i).1 [] = sm (fun k => match Qr rs k with | none => szA mm k * Tr rs k | some _ => 0) i
  | 0, _ => rfl
  | i + 1, hi => by
    have lx := f.len
    have ih := tot_ofs f ne hl i (by omega)
    have ex := List.getElem?_eq_getElem (l := xs) (i := i) (by omega)
    have hlo : i < (ofs xs mm i).2.length := by rw [ofs_len]; omega
    have em := List.getElem?_eq_getElem (l := (ofs xs mm i).2) (i := i) hlo
    obtain ⟨hr, hp⟩ := par_of f ex
    obtain ⟨m0, e0, e1, _⟩ := ofs_sz xs mm i i _ em
    rw [ofs_step ex em]
    show (if [] = xs[i].par then (ofs xs mm i).1 xs[i].par + (ofs xs mm i).2[i].sz * tms xs[i].r else if [] = xs[i].r.nm then (ofs xs mm i).1 xs[i].par else (ofs xs mm i).1 []) = sm _ i + (match Qr rs i with | none => szA mm i * Tr rs i | some _ => 0)
    rw [← ih, e1]
    have t : Tr rs i = tms xs[i].r := by unfold Tr; rw [hr]
    have hn := ne _ (List.mem_of_getElem? hr)
    have sz : szA mm i = m0.sz := by unfold szA; rw [e0]
    cases h : Qr rs i with
    | none =>
      rw [h] at hp
      have hp : xs[i].par = [] := hp
      rw [if_pos hp.symm, hp, sz, t]
    | some p =>
      obtain ⟨p1, p2, _⟩ := Qr_lt h
      have er := List.getElem?_eq_getElem (l := rs) (i := p) (by omega)
      rw [h] at hp
      dsimp only at hp
      rw [er] at hp
      dsimp only at hp
      rw [if_neg (by rw [hp]; exact (ne _ (List.mem_of_getElem? er)).symm), if_neg hn.symm]
      rfl
/-- the storage that all need, by the entries alone -/
theorem total_sum (f : Fresh rs xs ms) (nd : (xs.map fun x => x.r.nm).Nodup) (ne : ∀ r ∈ rs, r.nm ≠ []) : total xs ms = wsum rs ∧ ∀ (i j : Nat) (m : Mut), (szs xs ms i)[j]? = some m → m.sz ≤ wsum rs := by
  have lx := f.len
  have lm : ms.length = rs.length := by rw [f.m, List.length_map, lx]
  have hz : ∀ i j, szA (szs xs ms (i + 1)) j = match Qr rs (rs.length - 1 - i) with | none => szA (szs xs ms i) j | some p => if j = p then szA (szs xs ms i) p + szA (szs xs ms i) (rs.length - 1 - i) * Tr rs (rs.length - 1 - i) else szA (szs xs ms i) j := fun i j => by
    rw [← lx]
    show szA (szStep xs (szs xs ms i) (xs.length - 1 - i)) j = _
    exact szA_step f nd ne (by rw [szs_len]; exact lm) _ _
  have h0 : ∀ k, szA (szs xs ms 0) k = szR rs k := fun k => by
    show szA ms k = _
    unfold szA szR
    rw [f.m, List.getElem?_map, ← f.r, List.getElem?_map]
    cases xs[k]? <;> rfl
  have ew : sm (fun k => Pr rs k * szA (szs xs ms 0) k) rs.length = wsum rs := sm_congr fun k _ => by rw [h0]
  have hQ : ∀ k p, Qr rs k = some p → p < k := fun k p h => (Qr_lt h).1
  refine ⟨?_, fun i j m hm => ?_⟩
  · unfold total
    rw [lx, tot_ofs f ne (by rw [szs_len]; exact lm) _ (Nat.le_refl _), ← ew, ← flow (z := fun i k => szA (szs xs ms i) k) hQ (Pr_rec rs) (Tr_pos rs) hz rs.length (Nat.le_refl _)]
    refine sm_congr fun k hk => ?_
    unfold W
    rw [if_neg (by omega)]
    cases Qr rs k with
    | none => exact Nat.mul_comm _ _
    | some p => exact (Nat.zero_mul _).symm
  · have hj := (List.getElem?_eq_some_iff.mp hm).1
    rw [szs_len, lm] at hj
    have := flow_le (z := fun i k => szA (szs xs ms i) k) hQ (Pr_rec rs) (Tr_pos rs) hz (Pr_pos rs) i j hj
    rw [← ew]
    refine Nat.le_trans ?_ this
    show _ ≤ szA (szs xs ms i) j
    unfold szA
    rw [hm]
    exact Nat.le_refl _
end
theorem wsum_le {rs : List Row} (h : okTo rs rs.length) (hl : rs.length ≤ 30) (h3 : ∀ r ∈ rs, r.tm ≤ 3) (hs : ∀ r ∈ rs, isz r.pc ≤ 13) : wsum rs ≤ 3510 := by
  have h1 : ∀ k < rs.length, Pr rs k * szR rs k ≤ 117 := fun k hk => by
    have e := List.getElem?_eq_getElem (l := rs) (i := k) hk
    have a : Pr rs k ≤ 9 := by
      unfold Pr
      rw [if_pos hk]
      refine Nat.le_trans (prodT_le fun r hr => h3 r (List.mem_of_mem_take (path_mem r hr))) ?_
      exact Nat.le_trans (Nat.pow_le_pow_right (by decide) (dims_ok (k := k + 1) (by omega) fun j r hj hr => h j r (by omega) hr)) (by decide)
    have b : szR rs k ≤ 13 := by unfold szR; rw [e]; exact hs _ (List.mem_of_getElem? e)
    exact Nat.le_trans (Nat.mul_le_mul a b) (by decide)
  exact Nat.le_trans (sm_const h1) (Nat.le_trans (Nat.mul_le_mul hl (Nat.le_refl _)) (by decide))
theorem great_40 : wsum (great 40) = 4000 := by decide +kernel
theorem great_41 : wsum (great 41) = 4100 := by decide +kernel
end ML

namespace D
open PySem PySem.Spec PyProof.Rows L2
theorem cut_to {xs : List V} {i : Nat} (h : i ≤ xs.length) : cutV xs none (some (i : Int)) = xs.take i := by
  have e2 : HT.sIx xs.length xs.length (some (i : Int)) = i := by
    show (if (i : Int) < 0 then ((i : Int) + (xs.length : Int)).toNat else min (i : Int).toNat xs.length) = i
    rw [if_neg (by omega)]; omega
  show (xs.drop 0).take (HT.sIx xs.length xs.length (some (i : Int)) - 0) = _
  rw [e2, List.drop_zero, Nat.sub_zero]
theorem cut_from {xs : List V} {i : Nat} (h : i ≤ xs.length) : cutV xs (some (i : Int)) none = xs.drop i := by
  have e1 : HT.sIx xs.length 0 (some (i : Int)) = i := by
    show (if (i : Int) < 0 then ((i : Int) + (xs.length : Int)).toNat else min (i : Int).toNat xs.length) = i
    rw [if_neg (by omega)]; omega
  show (xs.drop (HT.sIx xs.length 0 (some (i : Int)))).take (xs.length - HT.sIx xs.length 0 (some (i : Int))) = _
  rw [e1, List.take_of_length_le (by rw [List.length_drop]; omega)]
theorem sl_to {K : PySem.W.Frag} {H : Hp} {a : Addr} {xs : List V} {i : Nat} {Q : VK} (h : SqL K H a xs) (hi : i ≤ xs.length) (q : ∀ p H', Same H H' → H' p = some (.lst (xs.take i)) → Q (.ref p) H') : rSlL K (.ref a) none (some (i : Int)) H Q :=
  ⟨a, xs, rfl, h, fun p hp => by rw [cut_to hi]; exact q p _ (WP.same_new hp) upd_same⟩
theorem sl_from {K : PySem.W.Frag} {H : Hp} {a : Addr} {xs : List V} {i : Nat} {j : Int} {Q : VK} (h : SqL K H a xs) (hi : i ≤ xs.length) (e : j = (i : Int)) (q : ∀ p H', Same H H' → H' p = some (.lst (xs.drop i)) → Q (.ref p) H') : rSlL K (.ref a) (some j) none H Q :=
  ⟨a, xs, rfl, h, fun p hp => by rw [e, cut_from hi]; exact q p _ (WP.same_new hp) upd_same⟩
theorem sl_t {K : PySem.W.Frag} {H : Hp} {a : Addr} {xs : List V} {lo hi : Option Int} {Q : VK} (h : SqT K H a xs) (q : ∀ p H', Same H H' → H' p = some (.tup (cutV xs lo hi)) → Q (.ref p) H') (n : ¬ (HT.sIx xs.length 0 lo = 0 ∧ HT.sIx xs.length xs.length hi = xs.length)) : rSlT K (.ref a) lo hi H Q :=
  ⟨a, xs, rfl, h, n, fun p hp => q p _ (WP.same_new hp) upd_same⟩
theorem cat_t {K : PySem.W.Frag} {H : Hp} {a b : Addr} {x y : V} {xs ys : List V} {Q : VK} (h : SqT K H a (x :: xs)) (h2 : SqT K H b (y :: ys)) (l : xs.length + ys.length ≤ 1000) (q : ∀ p H', Same H H' → H' p = some (.tup ((x :: xs) ++ (y :: ys))) → Q (.ref p) H') : rCatT K (.ref a) (.ref b) H Q :=
  ⟨a, b, _, _, rfl, rfl, h, h2, (fun z => nomatch z), by rw [sizeLine_eq, List.length_cons, List.length_cons]; omega, (fun z => nomatch z), fun _ p hp => q p _ (WP.same_new hp) upd_same⟩
theorem cat_l {H : Hp} {a b : Addr} {xs ys : List V} {Q : VK} (h : H a = some (.lst xs)) (h2 : H b = some (.lst ys)) (l : xs.length + ys.length ≤ 1000) (q : ∀ p H', Same H H' → H' p = some (.lst (xs ++ ys)) → Q (.ref p) H') : rCat (.ref a) (.ref b) H Q :=
  WP.catLL h h2 (by omega) fun p hp => q p _ (WP.same_new hp) upd_same
end D

namespace WP
open PySem PySem.Spec PyProof.Rows L2
/-- what a class's making lets out goes to the suite of this def's try, whatever the names hold -/
theorem passL {X : Cx} {W : WX} {n : Nat} (tk : Takes X W) (hn : X.N.length = n) : Passes (L2.CX X.prog X.w) X (fun cls d H => ∀ σ : L2.St, σ.length = n → W cls d σ H) :=
  fun pins σ H s e s' I c => tk e s' (XE.of_call I (fun _ _ _ h => h σ (I.len.trans hn)) c)
end WP
namespace WP
open PySem PySem.Spec PyProof.Rows L2
/-- a field, with the fragment named (in a comprehension) -/
theorem pe_fldK {X : Cx} {K : PySem.W.Frag} {e : Expr} {ta : TE} {f : Str} {pos : Pos} (h : X.K = K) (he : PE X e ta) (hb : attributeBase e f X.env (eval e X.env) = eval e X.env) : PE X (.Attribute e f pos) (tFld K ta f) := by
  subst h; exact pe_fld he hb
theorem dget1 {td ty : TE} {σ : L2.St} {H : Hp} {Q : VK} (h : td σ H fun x H1 => ∃ a, x = .ref a ∧ IsD H1 a ∧ ty σ H1 fun y H2 => ∃ o, DGet H2 a y o ∧ Q (o.getD .non) H2) : tDGet1 td ty σ H Q := h
end WP

namespace D
open PySem PySem.Spec PyProof.Rows L2
local macro_rules | `(tactic| k_memK) => `(tactic| first
  | (with_reducible refine WP.eqTS ?_) | (with_reducible refine WP.neTS ?_) | (with_reducible refine WP.bm ?_) | (with_reducible refine WP.tyS ?_) | (with_reducible refine WP.gsub ?_) | (with_reducible refine WP.rng3 ?_) | (with_reducible refine WP.sfld ?_) | (with_reducible refine WP.make ?_) | (with_reducible refine WP.gsl ?_) | (with_reducible refine WP.wstr ?_) | (with_reducible refine WP.bm0 ?_) | (with_reducible refine WP.lc ?_) | (with_reducible refine WP.jr ?_) | (with_reducible refine WP.zipS ?_) | (with_reducible refine WP.par ?_) | (with_reducible refine WP.ost ?_) | (with_reducible refine WP.mko ?_) | (with_reducible refine WP.enumT ?_) | (with_reducible refine WP.tupRev ?_) | (with_reducible refine WP.rev ?_) | (with_reducible refine WP.dnewK ?_) | (with_reducible refine WP.din ?_) | (with_reducible refine WP.dnotin ?_) | (with_reducible refine WP.dput ?_) | (with_reducible refine WP.dget ?_) | (with_reducible refine WP.dcomp ?_) | (with_reducible refine WP.star ?_) | (with_reducible refine WP.walkA ?_) | (with_reducible refine WP.zipA ?_) | (with_reducible refine WP.enumL ?_) | (with_reducible refine WP.itemsW ?_) | (with_reducible refine WP.listVals ?_) | (with_reducible refine WP.fld ?_)
  | (with_reducible refine WP.seq ?_) | (with_reducible refine WP.asg ?_) | (with_reducible refine WP.name ?_)
  | ((with_reducible show tVar _ _ _ _); refine WP.var rfl ?_) | (with_reducible refine WP.con ?_) | (with_reducible refine WP.op ?_) | (with_reducible refine WP.i0 ?_)
  | (with_reducible refine WP.un ?_) | (with_reducible refine WP.rU_ ?_)
  | (with_reducible refine WP.ifS ?_) | (with_reducible refine WP.ifE ?_) | (with_reducible refine WP.test ?_) | (with_reducible refine WP.bt ?_) | (with_reducible refine WP.isbV ?_)
  | (with_reducible refine WP.ret ?_) | (with_reducible refine WP.retN ?_) | (with_reducible refine WP.drop ?_) | (with_reducible refine WP.next ?_) | (with_reducible refine WP.brk ?_) | (with_reducible refine WP.cont ?_)
  | (with_reducible refine WP.cb ?_) | (with_reducible refine WP.call ?_) | (with_reducible refine WP.cons ?_) | (with_reducible refine WP.nil ?_) | (with_reducible refine WP.tup ?_) | (with_reducible refine WP.lst ?_)
  | (with_reducible refine WP.eqI ?_) | (with_reducible refine WP.neI ?_) | (with_reducible refine WP.eqT ?_) | (with_reducible refine WP.neT ?_) | (with_reducible refine WP.eqB ?_) | (with_reducible refine WP.neB ?_)
  | (with_reducible refine WP.notT ?_) | (with_reducible refine WP.andT ?_) | (with_reducible refine WP.orT ?_) | (with_reducible refine WP.andV ?_) | (with_reducible refine WP.orV ?_) | (with_reducible refine WP.notV ?_)
  | (with_reducible refine WP.sl ?_) | (with_reducible refine WP.noPart ?_) | (with_reducible refine WP.part ?_) | (with_reducible refine WP.isi ?_) | (with_reducible refine WP.isbV ?_) | (with_reducible refine WP.gsCons ?_) | (with_reducible refine WP.gsNil ?_) | (with_reducible refine WP.forl ?_) | (with_reducible refine WP.rng1 ?_) | (with_reducible refine WP.rng2 ?_) | (with_reducible refine WP.walkL ?_) | (with_reducible refine WP.walkT ?_))
local macro_rules | `(tactic| k_updF) => `(tactic| repeat k_memK)

def top (i : Nat) : Stmt := PySem.Challenge.pw_cardwright_k21_data_that_stands_wrong.main.body.getD i (.Pass ⟨0, 0, 0, 0⟩)
structure Blt (w : World) (K : PySem.W.Frag) (mg : Str → Option Value) : Prop where
  b_abs : mg "abs" = none
  b_enumerate : mg "enumerate" = none
  b_int : mg "int" = none
  b_isinstance : mg "isinstance" = none
  b_len : mg "len" = none
  b_list : mg "list" = none
  b_max : mg "max" = none
  b_range : mg "range" = none
  b_reversed : mg "reversed" = none
  b_str : mg "str" = none
  c_MOST_DIMENSIONS : ∃ u, mg "MOST_DIMENSIONS" = some u ∧ RelV (.int 2) u
  c_MOST_STORAGE : ∃ u, mg "MOST_STORAGE" = some u ∧ RelV (.int 4000) u
  xi_BadData : WP.ExiOk K mg "BadData" ["reason", "name"]
  k_Item : WP.ClsOk K mg "Item" ["name", "picture", "times", "value", "parent", "offset", "size", "children"]
  k_Layout : WP.ClsOk K mg "Layout" ["_items", "_size"]
  e_BadPicture : WP.ExcOk K mg "BadPicture"
  s_BadData_BadData : PySem.W.subIn K (.ref (WP.ca mg "BadData")) (.ref (WP.ca mg "BadData")) = some true
  s_BadPicture_BadData : PySem.W.subIn K (.ref (WP.ca mg "BadPicture")) (.ref (WP.ca mg "BadData")) = some false
abbrev s__law_rich : Stmt := top 33
abbrev N__law_rich : List Str := ["cell", "k", "mixed"]
theorem sc__law_rich : FnScope N__law_rich ["cell", "k"] (defScope s__law_rich) := ⟨rfl, rfl, rfl, by decide +kernel, rfl, by decide +kernel, by decide +kernel⟩
def sp__law_rich (K : PySem.W.Frag) (mg : WP.MG) : Sp := fun vs H Q _ => ∃ c k : Int, vs = [.int c, .int k] ∧ ∀ r : Int, 0 ≤ r → Q (.int r) H
section
variable {P : Program} {w : World} {K : PySem.W.Frag} {mg : Str → Option Value} {base : Heap}
theorem ok__law_rich {f : Addr} {fd : FuncData} (F : Fun K "_law_rich" "_law_rich" s__law_rich f fd) (B : Blt w K mg)  : FnOk P w K mg base CX0 1 f fd ["cell", "k"] (sp__law_rich K mg) := by
  refine F.ok sc__law_rich (fun vs H Q E h => ?_) (fun cdv A outer s H vs Q E hr h => ?_)
  · first | (obtain ⟨_, rfl, _⟩ := h; rfl) | (obtain ⟨_, _, rfl, _⟩ := h; rfl) | (obtain ⟨_, _, _, rfl, _⟩ := h; rfl) | (obtain ⟨_, _, _, _, rfl, _⟩ := h; rfl) | (obtain ⟨_, _, _, _, _, rfl, _⟩ := h; rfl) | (obtain ⟨_, _, _, _, _, _, rfl, _⟩ := h; rfl) | (obtain ⟨_, _, _, _, _, _, _, rfl, _⟩ := h; rfl) | (obtain ⟨_, _, _, _, _, _, _, _, rfl, _⟩ := h; rfl) | (obtain ⟨rfl, _⟩ := h; rfl)
  · obtain ⟨c, i, rfl, k⟩ := h
    refine ⟨_, (pss_cons (ps_if (pt_cmpR op_ge (pv 0) (pe_op op_pow pe_int pe_int) (nomark _)) (pss_one (ps_ret (pe_callTy WP.c_int1 (by rfl) B.b_int (by decide +kernel) (WP.pa_consN (pv 0) pa_nil)))) pss_nil)
      (pss_cons (ps_set (i := 2) sc__law_rich.nd rfl (Or.inl rfl) (pe_op op_mod (pe_callTy WP.c_int1 (by rfl) B.b_int (by decide +kernel) (WP.pa_consN (pe_op op_add (pe_op op_add (pe_op op_mul (pv 0) pe_int) (pe_op op_mul (pv 1) pe_int)) pe_int) pa_nil)) pe_int))
      (pss_one (ps_ret (pe_op op_add (pe_op op_mul (pv 2) pe_int) (pe_op op_mod (pe_callTy WP.c_int1 (by rfl) B.b_int (by decide +kernel) (WP.pa_consN (pe_op op_add (pe_op op_mul (pv 2) pe_int) (pv 0)) pa_nil)) pe_int)))))), ?_⟩
    k_updF
    refine WP.iC ⟨by decide, by decide, by decide⟩ ?_
    k_updF
    refine WP.br (fun g => ?_) (fun g => ?_)
    · k_updF
      refine WP.intI (k _ ?_)
      have : (0 : Int) ≤ 10 ^ (18 : Int).toNat := by decide
      omega
    · k_updF
      refine WP.iC (.inr (by decide)) ?_
      k_updF
      refine WP.iC (.inr (by decide)) ?_
      k_updF
      refine WP.intI ?_
      k_updF
      refine WP.iC (by decide) ?_
      k_updF
      refine WP.iC (.inr (by decide)) ?_
      k_updF
      refine WP.iC (.inr (by decide)) ?_
      k_updF
      refine WP.intI ?_
      k_updF
      refine WP.iC (by decide) ?_
      k_updF
      refine k _ ?_
      have h1 := Int.emod_nonneg (c * 48271 + i * 69621 + 11) (show (2147483647 : Int) ≠ 0 by decide)
      have h2 := Int.emod_nonneg ((c * 48271 + i * 69621 + 11) % 2147483647 * 16807 + c) (show (2147483629 : Int) ≠ 0 by decide)
      omega
end
abbrev s__law_cell : Stmt := top 32
abbrev N__law_cell : List Str := ["script", "k"]
theorem sc__law_cell : FnScope N__law_cell ["script", "k"] (defScope s__law_cell) := ⟨rfl, rfl, rfl, by decide +kernel, rfl, by decide +kernel, by decide +kernel⟩
/-- the script's number at k, 0 behind its end -/
def cellV (ns : List Int) (k : Int) : Int := if k < (ns.length : Int) then ns.getD k.toNat 0 else 0
def sp__law_cell (K : PySem.W.Frag) (mg : WP.MG) : Sp := fun vs H Q _ => ∃ (a : Addr) (ns : List Int) (k : Int), vs = [.ref a, .int k] ∧ SqL K H a (ns.map V.int) ∧ 0 ≤ k ∧ ∀ c : Int, c = cellV ns k → Q (.int c) H
section
variable {P : Program} {w : World} {K : PySem.W.Frag} {mg : Str → Option Value} {base : Heap}
theorem ok__law_cell {f : Addr} {fd : FuncData} (F : Fun K "_law_cell" "_law_cell" s__law_cell f fd) (B : Blt w K mg)  : FnOk P w K mg base CX0 1 f fd ["script", "k"] (sp__law_cell K mg) := by
  refine F.ok sc__law_cell (fun vs H Q E h => ?_) (fun cdv A outer s H vs Q E hr h => ?_)
  · first | (obtain ⟨_, rfl, _⟩ := h; rfl) | (obtain ⟨_, _, rfl, _⟩ := h; rfl) | (obtain ⟨_, _, _, rfl, _⟩ := h; rfl) | (obtain ⟨_, _, _, _, rfl, _⟩ := h; rfl) | (obtain ⟨_, _, _, _, _, rfl, _⟩ := h; rfl) | (obtain ⟨_, _, _, _, _, _, rfl, _⟩ := h; rfl) | (obtain ⟨_, _, _, _, _, _, _, rfl, _⟩ := h; rfl) | (obtain ⟨_, _, _, _, _, _, _, _, rfl, _⟩ := h; rfl) | (obtain ⟨rfl, _⟩ := h; rfl)
  · obtain ⟨a, ns, i, rfl, ha, hi, k⟩ := h
    refine ⟨_, (pss_cons (ps_if (pt_cmpR op_lt (pv 1) (pe_callB WP.c_len (by rfl) B.b_len (by decide +kernel) (WP.pa_consN (pv 0) pa_nil)) (nomark _)) (pss_one (ps_ret (pe_callTy WP.c_int1 (by rfl) B.b_int (by decide +kernel) (WP.pa_consN (pe_ix ix_list (pv 0) (pv 1) (fun _ _ => rfl)) pa_nil)))) pss_nil)
      (pss_one (ps_ret pe_int))), ?_⟩
    k_updF
    refine WP.lenL ha ?_
    k_updF
    refine WP.br (fun c => ?_) (fun c => ?_)
    · k_updF
      rw [List.length_map] at c
      refine WP.ixL ha (WP.at_ints hi c) ?_
      k_updF
      exact WP.intI (k _ (by unfold cellV; rw [if_pos c]))
    · k_updF
      rw [List.length_map] at c
      exact k 0 (by unfold cellV; rw [if_neg c])
end
abbrev s__law_picture : Stmt := top 35
abbrev N__law_picture : List Str := ["rich", "choice", "rest", "whole", "body", "fraction", "sign", "digits", "mark"]
theorem sc__law_picture : FnScope N__law_picture ["rich"] (defScope s__law_picture) := ⟨rfl, rfl, rfl, by decide +kernel, rfl, by decide +kernel, by decide +kernel⟩
theorem bod7 : ∀ b ∈ MP.bodies, b.length ≤ 7 := by decide +kernel
theorem sgm2 : ∀ s ∈ MP.signs, (MR.sgm s).length ≤ 2 := by decide +kernel
def sp__law_picture (K : PySem.W.Frag) (mg : WP.MG) : Sp := fun vs H Q _ => ∃ r : Int, vs = [.int r] ∧ (∀ x : MR.Res, (∀ q, x = .pic q → q.Ok) → MR.sizT x ≤ 13 → WP.RetT x.vs H Q)
section
variable {P : Program} {w : World} {K : PySem.W.Frag} {mg : Str → Option Value} {base : Heap}
theorem ok__law_picture {f : Addr} {fd : FuncData} (F : Fun K "_law_picture" "_law_picture" s__law_picture f fd) (B : Blt w K mg)  : FnOk P w K mg base CX0 1 f fd ["rich"] (sp__law_picture K mg) := by
  refine F.ok sc__law_picture (fun vs H Q E h => ?_) (fun cdv A outer s H vs Q E hr h => ?_)
  · first | (obtain ⟨_, rfl, _⟩ := h; rfl) | (obtain ⟨_, _, rfl, _⟩ := h; rfl) | (obtain ⟨_, _, _, rfl, _⟩ := h; rfl) | (obtain ⟨_, _, _, _, rfl, _⟩ := h; rfl) | (obtain ⟨_, _, _, _, _, rfl, _⟩ := h; rfl) | (obtain ⟨_, _, _, _, _, _, rfl, _⟩ := h; rfl) | (obtain ⟨_, _, _, _, _, _, _, rfl, _⟩ := h; rfl) | (obtain ⟨_, _, _, _, _, _, _, _, rfl, _⟩ := h; rfl) | (obtain ⟨rfl, _⟩ := h; rfl)
  · obtain ⟨r, rfl, k⟩ := h
    refine ⟨_, (pss_cons (ps_set (i := 1) sc__law_picture.nd rfl (Or.inl rfl) (pe_op op_mod (pv 0) pe_int))
      (pss_cons (ps_set (i := 2) sc__law_picture.nd rfl (Or.inl rfl) (pe_op op_fdiv (pv 0) pe_int))
      (pss_cons (ps_if (pt_cmpR op_eq (pv 1) pe_int (nomark _)) (pss_one (ps_ret (pe_tup (WP.pa_consN (WP.pe_strL [116, 101, 120, 116] (by decide +kernel)) (WP.pa_consN (pe_op op_add pe_int (pe_op op_mod (pv 2) pe_int)) pa_nil))))) pss_nil)
      (pss_cons (ps_if (pt_cmpR op_lt (pv 1) pe_int (nomark _)) (pss_cons (ps_set (i := 3) sc__law_picture.nd rfl (Or.inl rfl) (pe_op op_mod (pv 2) pe_int))
      (pss_one (ps_ret (pe_tup (WP.pa_consN (WP.pe_strL [110, 117, 109, 98, 101, 114] (by decide +kernel)) (WP.pa_consN (pe_cmpR op_eq (pe_op op_mod (pe_op op_fdiv (pv 2) pe_int) pe_int) pe_int (nomark _)) (WP.pa_consN (pe_callB (WP.c_max2 rfl) (by rfl) B.b_max (by decide +kernel) (WP.pa_consN (pv 3) (WP.pa_consN (pe_op op_sub pe_int (pe_op op_mod (pe_op op_fdiv (pv 2) pe_int) pe_int)) pa_nil))) (WP.pa_consN (pe_op op_mod (pe_op op_fdiv (pv 2) pe_int) pe_int) pa_nil)))))))) pss_nil)
      (pss_cons (ps_set (i := 4) sc__law_picture.nd rfl (Or.inl rfl) (pe_ix ix_list (pe_lst (WP.pa_consN (WP.pe_strL [122, 122, 57] (by decide +kernel)) (WP.pa_consN (WP.pe_strL [122, 122, 122] (by decide +kernel)) (WP.pa_consN (WP.pe_strL [122, 57] (by decide +kernel)) (WP.pa_consN (WP.pe_strL [57] (by decide +kernel)) (WP.pa_consN (WP.pe_strL [42, 42, 42] (by decide +kernel)) (WP.pa_consN (WP.pe_strL [42, 42, 57] (by decide +kernel)) (WP.pa_consN (WP.pe_strL [122, 122, 44, 122, 122, 57] (by decide +kernel)) (WP.pa_consN (WP.pe_strL [42, 42, 44, 42, 42, 42] (by decide +kernel)) (WP.pa_consN (WP.pe_strL [57, 57, 47, 57, 57] (by decide +kernel)) (WP.pa_consN (WP.pe_strL [122, 44, 122, 122, 57, 98, 57] (by decide +kernel)) (WP.pa_consN (WP.pe_strL [57, 98, 57] (by decide +kernel)) (WP.pa_consN (WP.pe_strL [122, 48, 122] (by decide +kernel)) (WP.pa_consN (WP.pe_strL [57, 57] (by decide +kernel)) (WP.pa_consN (WP.pe_strL [122, 98, 57] (by decide +kernel)) pa_nil))))))))))))))) (pe_op op_mod (pv 2) pe_int) (fun _ _ => rfl)))
      (pss_cons (ps_set (i := 5) sc__law_picture.nd rfl (Or.inl rfl) (pe_op op_mod (pe_op op_fdiv (pv 2) pe_int) pe_int))
      (Evl.pss_cut (ps_if (pt_cmpR op_gt (pv 5) pe_int (nomark _)) (pss_one (ps_set (i := 4) sc__law_picture.nd rfl (Or.inl rfl) (pe_op WP.op_addS (pe_op WP.op_addS (pv 4) (WP.pe_strL [46] (by decide +kernel))) (pe_slice sl_str (WP.pe_strL [57, 57, 57] (by decide +kernel)) po_none (po_some (pv 5)))))) pss_nil)
      (pss_cons (ps_set (i := 6) sc__law_picture.nd rfl (Or.inl rfl) (pe_ix ix_list (pe_lst (WP.pa_consN (WP.pe_strL [] (by decide +kernel)) (WP.pa_consN (WP.pe_strL [45] (by decide +kernel)) (WP.pa_consN (WP.pe_strL [43] (by decide +kernel)) (WP.pa_consN (WP.pe_strL [46, 45] (by decide +kernel)) (WP.pa_consN (WP.pe_strL [46, 43] (by decide +kernel)) (WP.pa_consN (WP.pe_strL [99, 114] (by decide +kernel)) (WP.pa_consN (WP.pe_strL [100, 98] (by decide +kernel)) (WP.pa_consN (WP.pe_strL [] (by decide +kernel)) pa_nil))))))))) (pe_op op_mod (pe_op op_fdiv (pv 2) pe_int) pe_int) (fun _ _ => rfl)))
      (pss_cons (ps_set (i := 7) sc__law_picture.nd rfl (Or.inl rfl) (pe_callB WP.c_len (by rfl) B.b_len (by decide +kernel) (WP.pa_consN (pe_lc (own := [("mark", 8)]) (g := gName 8) rfl sc__law_picture.nd (pi_str (pv 4)) (blkOk_by (own := [("mark", 8)]) (N := N__law_picture) (sc := defScope s__law_picture) (by decide +kernel)) (fun _ _ _ _ _ => pg_name (i := 8) sc__law_picture.nd rfl (Or.inl rfl)) (fun _ _ _ _ _ => (pts_one (pt_cmpR WP.op_inSign (pv 8) (WP.pe_strL [122, 42, 57] (by decide +kernel)) rfl))) (fun _ _ _ _ _ => (pv 8))) pa_nil)))
      (Evl.pss_cut (ps_if (PW.pt (pw_and (pt_cmpR op_eq (pv 6) (WP.pe_strL [] (by decide +kernel)) (nomark _)) (pw_and1 (pt_cmpR op_in_seq (pv 4) (pe_lst (WP.pa_consN (WP.pe_strL [57] (by decide +kernel)) (WP.pa_consN (WP.pe_strL [57, 57] (by decide +kernel)) pa_nil))) rfl)))) (pss_one (ps_set (i := 6) sc__law_picture.nd rfl (Or.inl rfl) (WP.pe_strL [45] (by decide +kernel)))) pss_nil)
      (pss_one (ps_ret (pe_tup (WP.pa_consN (WP.pe_strL [101, 100, 105, 116, 101, 100] (by decide +kernel)) (WP.pa_consN (pv 4) (WP.pa_consN (pe_op op_sub (pv 7) (pv 5)) (WP.pa_consN (pv 5) (WP.pa_consN (pv 6) pa_nil)))))))))))))))))), ?_⟩
    k_updF
    refine WP.iC (by decide) ?_
    k_updF
    refine WP.iC ⟨by decide, by decide⟩ ?_
    k_updF
    generalize r / 8 = rest
    refine WP.br (fun c => ?_) (fun c => ?_)
    · k_updF
      refine WP.iC (by decide) ?_
      k_updF
      have h0 := Int.emod_nonneg rest (show (12 : Int) ≠ 0 by decide)
      have h1 := Int.emod_lt_of_pos rest (show (0 : Int) < 12 by decide)
      refine ⟨WP.sz2, ?_⟩
      have := k (.txt (1 + rest % 12).toNat) (fun q z => nomatch z) (by show (1 + rest % 12).toNat ≤ 13; omega)
      replace this : WP.RetT [.str (SX.S [116, 101, 120, 116]), .int (((1 + rest % 12).toNat : Nat) : Int)] H Q := this
      rw [show (((1 + rest % 12).toNat : Nat) : Int) = 1 + rest % 12 by omega] at this
      exact this.new (Same.refl _)
    clear c
    k_updF
    refine WP.br (fun c => ?_) (fun c => ?_)
    · k_updF
      refine WP.iC (by decide) ?_
      k_updF
      refine WP.iC ⟨by decide, by decide⟩ ?_
      k_updF
      refine WP.iC (by decide) ?_
      k_updF
      refine WP.iC ⟨by decide, by decide⟩ ?_
      k_updF
      refine WP.iC (by decide) ?_
      k_updF
      refine WP.maxI ?_
      k_updF
      refine WP.iC ⟨by decide, by decide⟩ ?_
      k_updF
      refine WP.iC (by decide) ?_
      k_updF
      have h0 := Int.emod_nonneg rest (show (5 : Int) ≠ 0 by decide)
      have h1 := Int.emod_lt_of_pos rest (show (0 : Int) < 5 by decide)
      have h2 := Int.emod_nonneg (rest / 10) (show (3 : Int) ≠ 0 by decide)
      have h3 := Int.emod_lt_of_pos (rest / 10) (show (0 : Int) < 3 by decide)
      generalize rest % 5 = v0 at *
      generalize rest / 10 % 3 = v1 at *
      refine ⟨WP.sz (show 4 ≤ 1000000 by decide), ?_⟩
      obtain ⟨m0, hm0⟩ : ∃ m0 : Nat, max v0 (1 - v1) = (m0 : Int) := ⟨(max v0 (1 - v1)).toNat, by omega⟩
      obtain ⟨m1, hm1⟩ : ∃ m1 : Nat, v1 = (m1 : Int) := ⟨v1.toNat, by omega⟩
      rw [hm0, hm1]
      exact (k (.pic (.num (decide (rest / 5 % 2 = 1)) m0 m1)) (fun q z => by cases z; exact ⟨by omega, by omega⟩) (by show m0 + m1 + _ ≤ 13; split <;> omega)).new (Same.refl _)
    k_updF
    refine ⟨WP.sz (show 14 ≤ 1000000 by decide), fun L hL => ?_⟩
    k_updF
    refine WP.iC (by decide) ?_
    obtain ⟨b, hb, eb⟩ := WP.at_S (ls := MP.bodies) (Int.emod_nonneg rest (show (14 : Int) ≠ 0 by decide)) (Int.emod_lt_of_pos rest (show (0 : Int) < 14 by decide))
    refine WP.ixL (SqL.of upd_same) eb ?_
    generalize hH : upd H L _ = H1
    have e1 : Same H H1 := by rw [← hH]; exact WP.same_new hL
    clear hH eb
    k_updF
    refine WP.iC ⟨by decide, by decide⟩ ?_
    k_updF
    refine WP.iC (by decide) ?_
    k_updF
    have f0 := Int.emod_nonneg (rest / 14) (show (4 : Int) ≠ 0 by decide)
    have f1 := Int.emod_lt_of_pos (rest / 14) (show (0 : Int) < 4 by decide)
    obtain ⟨fr, hfr⟩ : ∃ fr : Nat, rest / 14 % 4 = (fr : Int) := ⟨(rest / 14 % 4).toNat, by omega⟩
    rw [hfr] at f0 f1 ⊢
    obtain ⟨q1, q2, q3, q4, q5, q6, q7, q8, q9⟩ := MP.bodies_ok b hb fr (by omega)
    refine WP.cut (fun σ' H' => H' = H1 ∧ ∃ (b' : List Nat) (n : Nat), σ' = [some (.int r), some (.int (r % 8)), some (.int rest), none, some (.str (SX.S b')), some (.int (fr : Int)), none, none, none] ∧ MP.Body b' (n + fr) ∧ 1 ≤ n ∧ n ≤ 5 ∧ b'.length ≤ 11) ?_ ?_
    · k_updF
      refine WP.br (fun c => ?_) (fun c => ?_)
      · k_updF
        refine WP.catS ?_ (by rw [sizeLine_eq]; show _ + 1 ≤ _; omega)
        k_updF
        refine WP.slTo (by omega) (by rw [sizeLine_eq]; decide) ?_
        rw [Int.toNat_natCast]
        refine WP.catS ?_ (by rw [sizeLine_eq, ← List.length_append]; omega)
        k_updF
        exact ⟨rfl, _, _, rfl, MP.body_of q1 q2 q3 q4, q5, q6, by have := bod7 b hb; rw [List.length_append, List.length_append, List.length_take]; show _ + 1 + _ ≤ 11; omega⟩
      · k_updF
        obtain rfl : fr = 0 := by omega
        exact ⟨rfl, _, _, rfl, MP.body_of q7 q8 q9 rfl, q5, q6, by have := bod7 b hb; omega⟩
    clear q1 q2 q3 q4 q5 q6 q7 q8 q9 hb
    rintro σ' H' ⟨rfl, b', n, rfl, hB, n1, n5, l11⟩
    k_updF
    refine ⟨WP.sz (show 8 ≤ 1000000 by decide), fun L2 hL2 => ?_⟩
    k_updF
    refine WP.iC ⟨by decide, by decide⟩ ?_
    k_updF
    refine WP.iC (by decide) ?_
    obtain ⟨s, hs, es⟩ := WP.at_S (ls := [[], [45], [43], [46, 45], [46, 43], [99, 114], [100, 98], []]) (Int.emod_nonneg (rest / 56) (show (8 : Int) ≠ 0 by decide)) (Int.emod_lt_of_pos (rest / 56) (show (0 : Int) < 8 by decide))
    refine WP.ixL (SqL.of upd_same) es ?_
    have hs' : s ∈ MP.signs := (show ∀ s ∈ [[], [45], [43], [46, 45], [46, 43], [99, 114], [100, 98], []], s ∈ MP.signs by decide) s hs
    clear hs es
    generalize hH : upd H' L2 _ = H2
    have e2 : Same H H2 := by rw [← hH]; exact e1.trans (WP.same_new hL2)
    clear hH
    k_updF
    refine ⟨_, rfl, fun D hD => WP.lc_txt (fun i Hx => Hx = upd H2 D (.lst (((b'.take i).filter MP.isD).map fun c => V.str (SX.S [c])))) rfl ?_ ?_⟩
    · rintro i c Hx hc rfl
      obtain ⟨hib, hget⟩ := List.getElem?_eq_some_iff.mp hc
      have et : b'.take (i + 1) = b'.take i ++ [c] := by rw [List.take_succ, hc]; rfl
      k_updF
      refine ⟨rfl, ?_⟩
      k_updF
      refine WP.inSign ?_
      rw [MP.memI]
      k_updF
      cases hDc : MP.isD c with
      | true =>
        refine WP.brT rfl ?_
        k_updF
        refine ⟨_, upd_same, ?_, ?_⟩
        · rw [List.length_map, sizeLine_eq]
          have := List.length_filter_le MP.isD (b'.take i)
          have := hB.ln
          rw [List.length_take] at *
          omega
        · rw [et, List.filter_append, List.map_append, show [c].filter MP.isD = [c] by simp [hDc], upd_upd]
          rfl
      | false =>
        refine WP.brF rfl ?_
        rw [et, List.filter_append, show [c].filter MP.isD = [] by simp [hDc], List.append_nil]
    rintro Hx rfl
    have e3 : Same H (upd H2 D (.lst (((b'.take b'.length).filter MP.isD).map fun c => V.str (SX.S [c])))) := e2.trans (WP.same_new hD)
    k_updF
    refine WP.lenL (SqL.of upd_same) ?_
    rw [List.length_map, List.take_length, hB.ct]
    rw [List.take_length] at e3
    generalize upd H2 D _ = H3 at e3 ⊢
    k_updF
    refine WP.cut (fun σ' H' => Same H H' ∧ ∃ (s : List Nat) (z : Option V), σ' = [some (.int r), some (.int (r % 8)), some (.int rest), none, some (.str (SX.S b')), some (.int (fr : Int)), some (.str (SX.S s)), some (.int ((n + fr : Nat) : Int)), z] ∧ s ∈ MP.signs) ?_ ?_
    · k_updF
      refine WP.br (fun c => ?_) (fun c => ?_)
      · k_updF
        refine ⟨WP.sz2, fun L3 hL3 => ?_⟩
        refine WP.inL [[57], [57, 57]] (SqL.of upd_same) rfl ?_
        k_updF
        refine WP.br (fun d => ?_) (fun d => ?_)
        · k_updF
          exact ⟨e3.trans (WP.same_new hL3), [45], _, rfl, by decide⟩
        · k_updF
          exact ⟨e3.trans (WP.same_new hL3), s, _, rfl, hs'⟩
      · refine WP.brF rfl ?_
        k_updF
        exact ⟨e3, s, _, rfl, hs'⟩
    rintro σ' H4 ⟨e4, s, z, rfl, hs'⟩
    k_updF
    refine ⟨WP.sz (show 5 ≤ 1000000 by decide), ?_⟩
    rw [show ((n + fr : Nat) : Int) - (fr : Int) = (n : Int) by omega]
    exact (k (.pic (.ed b' n fr s)) (fun q z => by cases z; exact ⟨by omega, by omega, hB, hs'⟩) (by have := sgm2 s hs'; show b'.length + (MR.sgm s).length ≤ 13; omega)).new e4
end
abbrev s__law_fields : Stmt := top 37
abbrev N__law_fields : List Str := ["rich", "level", "letter", "count", "rows", "k", "picture", "times"]
theorem sc__law_fields : FnScope N__law_fields ["rich", "level", "letter", "count"] (defScope s__law_fields) := ⟨rfl, rfl, rfl, by decide +kernel, rfl, by decide +kernel, by decide +kernel⟩
theorem divW {i j : Int} (h : 0 < j) (h2 : j < 1000) : CDivW i j := ⟨h, by
  have : j.natAbs.log2 < 10 := (Nat.log2_lt (by omega)).mpr (by omega)
  omega⟩
theorem mulS {i j : Int} (h : 0 ≤ i) (h2 : i < 1000) : CMul i j := .inl ⟨by omega, by omega⟩
/-- a row as the law draws it -/
structure LOk (r : ML.Row) : Prop where
  nl : r.nm.length ≤ 20
  ne : r.nm ≠ []
  nc : ∀ c ∈ r.nm, c < 128
  pc : ∀ x, r.pc = some x → (∀ q, x = .pic q → q.Ok) ∧ MR.sizT x ≤ 13
  tm : r.tm ≤ 3
  lv : r.lv ≤ 9
  l1 : 1 ≤ r.lv
  txt : ∀ t, r.vl = .txt t → t.length ≤ 15 ∧ ∀ c ∈ t, c < 128
  dec : ∀ u s, r.vl = .dec u s → u.natAbs ≤ 10 ^ 18 ∧ s ≤ 20
theorem new_keep {K : PySem.W.Frag} {H : Hp} {p : Addr} {o : HO} (hp : H p = none) : ∀ b us, SqT K H b us → SqT K (upd H p o) b us := fun b us h => WP.sqt (WP.same_new hp) h
theorem app_row {K : PySem.W.Frag} {H : Hp} {D p : Addr} {xs : List V} {rs : List ML.Row} {pv vv : V} (r : ML.Row) (hy : H D = some (.lst xs)) (hp : H p = none) (hR : ML.RwA K H xs rs) (h1 : ML.PicV K H pv r.pc) (h2 : ML.ValV K H vv r.vl) :
    ML.RwA K (upd (upd H p (.tup [.int (r.lv : Int), .str (SX.S r.nm), pv, .int (r.tm : Int), vv])) D (.lst (xs ++ [.ref p]))) (xs ++ [.ref p]) (rs ++ [r]) := by
  have ne : D ≠ p := ne_of_none hy hp
  have hy' : (upd H p (.tup [.int (r.lv : Int), .str (SX.S r.nm), pv, .int (r.tm : Int), vv])) D = some (.lst xs) := by rw [upd_ne ne]; exact hy
  have kp : ∀ b us, SqT K H b us → SqT K (upd (upd H p (.tup [.int (r.lv : Int), .str (SX.S r.nm), pv, .int (r.tm : Int), vv])) D (.lst (xs ++ [.ref p]))) b us := fun b us h => ML.sqt_lst hy' (new_keep hp b us h)
  exact ML.All2.app (ML.RwA.keep kp hR) (ML.All2.one ⟨p, pv, vv, rfl, .inl (.inl (by rw [upd_ne ne.symm, upd_same])), h1.keep kp, h2.keep kp⟩)
abbrev lRets (K : PySem.W.Frag) (n : Nat) (H : Hp) (Q : VK) : Prop := ∀ (a : Addr) (xs : List V) (rs : List ML.Row) (H' : Hp), Same H H' → H' a = some (.lst xs) → ML.RwA K H' xs rs → rs.length ≤ n → (∀ r ∈ rs, LOk r) → Q (.ref a) H'
def sp__law_fields (K : PySem.W.Frag) (mg : WP.MG) : Sp := fun vs H Q _ => ∃ (r : Int) (lv : Nat) (l : ML.Tx) (n : Nat), vs = [.int r, .int (lv : Int), .str (SX.S l), .int (n : Int)] ∧ n ≤ 3 ∧ 1 ≤ lv ∧ lv ≤ 9 ∧ l.length ≤ 10 ∧ (∀ c ∈ l, c < 128) ∧ 0 ≤ r ∧ lRets K n H Q
section
variable {P : Program} {w : World} {K : PySem.W.Frag} {mg : Str → Option Value} {base : Heap}
theorem ok__law_fields {f : Addr} {fd : FuncData} (F : Fun K "_law_fields" "_law_fields" s__law_fields f fd) (B : Blt w K mg) (c__law_picture : WP.Callee P w K mg base CX0 1 "_law_picture" ["rich"] (sp__law_picture K mg)) : FnOk P w K mg base CX0 2 f fd ["rich", "level", "letter", "count"] (sp__law_fields K mg) := by
  refine F.ok sc__law_fields (fun vs H Q E h => ?_) (fun cdv A outer s H vs Q E hr h => ?_)
  · first | (obtain ⟨_, rfl, _⟩ := h; rfl) | (obtain ⟨_, _, rfl, _⟩ := h; rfl) | (obtain ⟨_, _, _, rfl, _⟩ := h; rfl) | (obtain ⟨_, _, _, _, rfl, _⟩ := h; rfl) | (obtain ⟨_, _, _, _, _, rfl, _⟩ := h; rfl) | (obtain ⟨_, _, _, _, _, _, rfl, _⟩ := h; rfl) | (obtain ⟨_, _, _, _, _, _, _, rfl, _⟩ := h; rfl) | (obtain ⟨_, _, _, _, _, _, _, _, rfl, _⟩ := h; rfl) | (obtain ⟨rfl, _⟩ := h; rfl)
  · obtain ⟨r, lv, l, n, rfl, hn, lv1, lv9, ll, lc, hr0, k⟩ := h
    refine ⟨_, (pss_cons (ps_set (i := 4) sc__law_fields.nd rfl (Or.inl rfl) (pe_lst pa_nil))
      (pss_cons (ps_for PassesOwn.never rfl (pi_range1 rfl B.b_range (WP.pa_consN (pv 3) pa_nil)) (pg_name (i := 5) sc__law_fields.nd rfl (Or.inl rfl)) (pss_cons (ps_set (i := 6) sc__law_fields.nd rfl (Or.inl rfl) (WP.pe_callC c__law_picture hr rfl pass0 (WP.pa_consN (pe_op op_add (pe_op op_fdivW (pv 0) (pe_op op_add pe_int (pe_op op_mul pe_int (pv 5)))) (pe_op op_mul pe_int (pv 5))) pa_nil)))
      (pss_cons (ps_set (i := 7) sc__law_fields.nd rfl (Or.inl rfl) pe_int)
      (Evl.pss_cut (ps_if (pt_cmpR op_eq (pe_op op_mod (pe_op op_fdivW (pv 0) (pe_op op_add pe_int (pv 5))) pe_int) pe_int (nomark _)) (pss_one (ps_set (i := 7) sc__law_fields.nd rfl (Or.inl rfl) (pe_op op_add pe_int (pe_op op_mod (pe_op op_fdivW (pv 0) (pe_op op_add pe_int (pv 5))) pe_int)))) pss_nil)
      (pss_one (ps_expr (pe_bm PySem.F.plainAttrs_list PySem.F.slot_list_append PySem.F.type_list_append mt_append (pv 4) (WP.pa_consN (pe_tup (WP.pa_consN (pv 1) (WP.pa_consN (pe_op WP.op_addS (pv 2) (pe_callTy WP.c_str (by rfl) B.b_str (by decide +kernel) (WP.pa_consN (pv 5) pa_nil))) (WP.pa_consN (pv 6) (WP.pa_consN (pv 7) (WP.pa_consN pe_non pa_nil)))))) pa_nil))))))))
      (pss_one (ps_ret (pv 4))))), ?_⟩
    k_updF
    refine ⟨Nat.zero_le _, fun D hD => ?_⟩
    k_updF
    refine ⟨_, rfl, by omega, by omega, for_range (lo := 0) (n := n) (fun i σ' H' => ∃ (z1 z2 z3 : Option V) (xs : List V) (rs : List ML.Row), σ' = [some (.int r), some (.int (lv : Int)), some (.str (SX.S l)), some (.int (n : Int)), some (.ref D), z1, z2, z3] ∧ (∀ b o, H b = some o → H' b = some o) ∧ H' D = some (.lst xs) ∧ ML.RwA K H' xs rs ∧ rs.length ≤ i ∧ (∀ r ∈ rs, LOk r))
      ⟨none, none, none, [], [], rfl, WP.same_new hD, upd_same, ML.All2.nil, Nat.le_refl _, by simp⟩ ?_ ?_⟩
    · rintro i σ' H' hi ⟨z1, z2, z3, xs, rs, rfl, e1, hy, hR, hl, hok⟩
      k_updF
      refine WP.iC (mulS (by decide) (by decide)) ?_
      k_updF
      refine WP.iC (divW (by omega) (by omega)) ?_
      k_updF
      refine WP.iC (mulS (by decide) (by decide)) ?_
      k_updF
      refine ⟨_, rfl, fun x hx1 hx2 a2 H2 e2 ha2 => ?_⟩
      have hpc : ∀ y, some x = some y → (∀ q, y = .pic q → q.Ok) ∧ MR.sizT y ≤ 13 := fun y z => by cases z; exact ⟨hx1, hx2⟩
      k_updF
      refine WP.cut (fun σ' H' => H' = H2 ∧ ∃ t : Nat, t ≤ 3 ∧ σ' = [some (.int r), some (.int (lv : Int)), some (.str (SX.S l)), some (.int (n : Int)), some (.ref D), some (.int (i : Int)), some (.ref a2), some (.int (t : Int))]) ?_ ?_
      · k_updF
        refine WP.iC (divW (by omega) (by omega)) ?_
        k_updF
        refine WP.iC (by decide) ?_
        k_updF
        refine WP.br (fun c => ?_) (fun c => ?_)
        · k_updF
          refine WP.iC (divW (by omega) (by omega)) ?_
          k_updF
          refine WP.iC (by decide) ?_
          k_updF
          have f0 := Int.emod_nonneg (r / (13 + (0 + (i : Int)))) (show (3 : Int) ≠ 0 by decide)
          have f1 := Int.emod_lt_of_pos (r / (13 + (0 + (i : Int)))) (show (0 : Int) < 3 by decide)
          refine ⟨rfl, (1 + r / (13 + (0 + (i : Int))) % 3).toNat, by omega, ?_⟩
          rw [Int.toNat_of_nonneg (by omega), Int.zero_add]; rfl
        · k_updF
          exact ⟨rfl, 0, by omega, by rw [Int.zero_add]; rfl⟩
      rintro σ' H' ⟨rfl, t, ht, rfl⟩
      have hy2 := e2 _ _ hy
      k_updF
      refine ⟨.inl ⟨rfl, _, SqL.of hy2⟩, ?_⟩
      k_updF
      refine WP.strI ?_ ?_
      · have : ((i : Int)).natAbs.log2 < 10 := (by rw [show ((i : Int)).natAbs = i by omega]; rcases (by omega : i = 0 ∨ i = 1 ∨ i = 2) with h | h | h <;> subst h <;> decide)
        omega
      rw [SX.num_S]
      have enl : TL.numL i = [48 + i] := by rw [TL.numL_lt (by omega)]
      rw [enl]
      refine WP.catS ?_ (by rw [sizeLine_eq]; show _ + 1 ≤ _; omega)
      k_updF
      refine ⟨WP.sz (show 5 ≤ 1000000 by decide), fun p hp => ?_⟩
      k_updF
      have R2 : ML.RwA K H' xs rs := hR.keep fun b us h => WP.sqt e2 h
      have nDp : D ≠ p := ne_of_none hy2 hp
      have hy3 : (upd H' p (.tup [.int (lv : Int), .str (SX.S (l ++ [48 + i])), .ref a2, .int (t : Int), .non])) D = some (.lst xs) := by rw [upd_ne nDp]; exact hy2
      have lx := hR.1
      refine ⟨_, _, _, rfl, rfl, hy3, by rw [sizeLine_eq]; omega, ?_⟩
      refine ⟨_, _, _, _, rs ++ [⟨lv, l ++ [48 + i], some x, t, .non⟩], rfl, ?_, upd_same, app_row ⟨lv, l ++ [48 + i], some x, t, .non⟩ hy2 hp R2 ⟨a2, rfl, .inl (.inl ha2)⟩ rfl, by rw [List.length_append]; show _ + 1 ≤ _; omega, ?_⟩
      · intro b o h
        have hb := e1 b o h
        have bD : b ≠ D := fun z => by rw [z, hD] at h; cases h
        rw [upd_ne bD, upd_ne (ne_of_none (e2 _ _ hb) hp)]
        exact e2 _ _ hb
      · intro r' h
        rcases List.mem_append.mp h with h | h
        · exact hok r' h
        · rw [List.mem_singleton.mp h]
          exact ⟨by show (l ++ [48 + i]).length ≤ 20; rw [List.length_append]; show _ + 1 ≤ 20; omega, by show l ++ [48 + i] ≠ []; simp, by
            intro c hc
            rcases List.mem_append.mp hc with hc | hc
            · exact lc c hc
            · rw [List.mem_singleton.mp hc]; omega, hpc, ht, lv9, lv1, (fun t z => nomatch z), (fun u s z => nomatch z)⟩
    · rintro σ' H' ⟨z1, z2, z3, xs, rs, rfl, e1, hy, hR, hl, hok⟩
      k_updF
      exact k D xs rs H' e1 hy hR hl hok
end
abbrev s__law_decimal : Stmt := top 34
abbrev N__law_decimal : List Str := ["units", "scale", "k"]
theorem sc__law_decimal : FnScope N__law_decimal ["units", "scale"] (defScope s__law_decimal) := ⟨rfl, rfl, rfl, by decide +kernel, rfl, by decide +kernel, by decide +kernel⟩
def sp__law_decimal (K : PySem.W.Frag) (mg : WP.MG) : Sp := fun vs H Q _ => ∃ (u : Int) (s : Int), vs = [.int u, .int s] ∧ 0 ≤ s ∧ s ≤ 5000 ∧ WP.RetT (WP.dv (MD.nrm u s.toNat).1 (MD.nrm u s.toNat).2) H Q
section
variable {P : Program} {w : World} {K : PySem.W.Frag} {mg : Str → Option Value} {base : Heap}
theorem ok__law_decimal {f : Addr} {fd : FuncData} (F : Fun K "_law_decimal" "_law_decimal" s__law_decimal f fd) (B : Blt w K mg)  : FnOk P w K mg base CX0 1 f fd ["units", "scale"] (sp__law_decimal K mg) := by
  refine F.ok sc__law_decimal (fun vs H Q E h => ?_) (fun cdv A outer s H vs Q E hr h => ?_)
  · first | (obtain ⟨_, rfl, _⟩ := h; rfl) | (obtain ⟨_, _, rfl, _⟩ := h; rfl) | (obtain ⟨_, _, _, rfl, _⟩ := h; rfl) | (obtain ⟨_, _, _, _, rfl, _⟩ := h; rfl) | (obtain ⟨_, _, _, _, _, rfl, _⟩ := h; rfl) | (obtain ⟨_, _, _, _, _, _, rfl, _⟩ := h; rfl) | (obtain ⟨_, _, _, _, _, _, _, rfl, _⟩ := h; rfl) | (obtain ⟨_, _, _, _, _, _, _, _, rfl, _⟩ := h; rfl) | (obtain ⟨rfl, _⟩ := h; rfl)
  · obtain ⟨u, s', rfl, hs, hs2, k⟩ := h
    refine ⟨_, (pss_cons (ps_for PassesOwn.never rfl (pi_range1 rfl B.b_range (WP.pa_consN (pv 1) pa_nil)) (pg_name (i := 2) sc__law_decimal.nd rfl (Or.inl rfl)) (pss_one (ps_if (pt_cmpR op_eq (pe_op op_mod (pe_callTy WP.c_int1 (by rfl) B.b_int (by decide +kernel) (WP.pa_consN (pv 0) pa_nil)) pe_int) pe_int (nomark _)) (pss_cons (ps_set (i := 0) sc__law_decimal.nd rfl (Or.inl rfl) (pe_op op_fdiv (pv 0) pe_int))
      (pss_one (ps_set (i := 1) sc__law_decimal.nd rfl (Or.inl rfl) (pe_op op_sub (pv 1) pe_int)))) (pss_one (ps_ret (pe_tup (WP.pa_consN (pv 0) (WP.pa_consN (pv 1) pa_nil))))))))
      (pss_one (ps_ret (pe_tup (WP.pa_consN (pv 0) (WP.pa_consN (pv 1) pa_nil)))))), ?_⟩
    k_updF
    refine ⟨_, rfl, by omega, by omega, for_range (lo := 0) (n := s'.toNat) (fun i σ' H' => ∃ (a : Int) (n : Nat) (z : Option V), σ' = [some (.int a), some (.int (n : Int)), z] ∧ H' = H ∧ n + i = s'.toNat ∧ MD.nrm a n = MD.nrm u s'.toNat)
      ⟨u, s'.toNat, none, by rw [Int.toNat_of_nonneg hs]; rfl, rfl, by omega, rfl⟩ ?_ ?_⟩
    · rintro i σ' H' hi ⟨a, n, z, rfl, rfl, hn, e⟩
      obtain ⟨n', rfl⟩ : ∃ n', n = n' + 1 := ⟨n - 1, by omega⟩
      k_updF
      refine WP.intI ?_
      k_updF
      refine WP.iC (show (0 : Int) < 10 by decide) ?_
      k_updF
      refine WP.br (fun c => ?_) (fun c => ?_)
      · k_updF
        refine WP.iC ⟨by decide, by decide⟩ ?_
        k_updF
        refine ⟨a / 10, n', some (.int (0 + (i : Int))), ?_, rfl, by omega, ?_⟩
        · rw [show ((n' + 1 : Nat) : Int) - 1 = (n' : Int) by omega]; rfl
        · rw [← e]
          show _ = if a % 10 = 0 then _ else _
          rw [if_pos c]
      · k_updF
        refine ⟨WP.sz2, ?_⟩
        rw [← e, MD.nrm_self (.inr c)] at k
        exact k.new (Same.refl _)
    · rintro σ' H' ⟨a, n, z, rfl, rfl, hn, e⟩
      obtain rfl : n = 0 := by omega
      k_updF
      refine ⟨WP.sz2, ?_⟩
      rw [← e] at k
      exact k.new (Same.refl _)
end
abbrev s__law_value : Stmt := top 38
abbrev N__law_value : List Str := ["picture", "rich", "limit", "k"]
theorem sc__law_value : FnScope N__law_value ["picture", "rich"] (defScope s__law_value) := ⟨rfl, rfl, rfl, by decide +kernel, rfl, by decide +kernel, by decide +kernel⟩
def sp__law_value (K : PySem.W.Frag) (mg : WP.MG) : Sp := fun vs H Q _ => ∃ (p : Addr) (x : MR.Res) (r : Int), vs = [.ref p, .int r] ∧ SqT K H p x.vs ∧ 0 ≤ r ∧ (∀ q, x = .pic q → q.Ok) ∧ MR.sizT x ≤ 13 ∧
  ∀ (v : V) (vl : ML.Val) (H' : Hp), Same H H' → ML.ValV K H' v vl → (∀ t, vl = .txt t → t.length ≤ 15 ∧ ∀ c ∈ t, c < 128) → (∀ u s, vl = .dec u s → u.natAbs ≤ 10 ^ 18 ∧ s ≤ 20) → Q v H'
section
variable {P : Program} {w : World} {K : PySem.W.Frag} {mg : Str → Option Value} {base : Heap}
theorem ok__law_value {f : Addr} {fd : FuncData} (F : Fun K "_law_value" "_law_value" s__law_value f fd) (B : Blt w K mg) (c__law_decimal : WP.Callee P w K mg base CX0 1 "_law_decimal" ["units", "scale"] (sp__law_decimal K mg)) : FnOk P w K mg base CX0 2 f fd ["picture", "rich"] (sp__law_value K mg) := by
  refine F.ok sc__law_value (fun vs H Q E h => ?_) (fun cdv A outer s H vs Q E hr h => ?_)
  · first | (obtain ⟨_, rfl, _⟩ := h; rfl) | (obtain ⟨_, _, rfl, _⟩ := h; rfl) | (obtain ⟨_, _, _, rfl, _⟩ := h; rfl) | (obtain ⟨_, _, _, _, rfl, _⟩ := h; rfl) | (obtain ⟨_, _, _, _, _, rfl, _⟩ := h; rfl) | (obtain ⟨_, _, _, _, _, _, rfl, _⟩ := h; rfl) | (obtain ⟨_, _, _, _, _, _, _, rfl, _⟩ := h; rfl) | (obtain ⟨_, _, _, _, _, _, _, _, rfl, _⟩ := h; rfl) | (obtain ⟨rfl, _⟩ := h; rfl)
  · obtain ⟨p, x, r, rfl, hp, hr0, hx1, hx2, k⟩ := h
    refine ⟨_, (pss_cons (ps_if (pt_cmpR op_gt (pe_op op_mod (pv 1) pe_int) pe_int (nomark _)) (pss_one (ps_ret pe_non)) pss_nil)
      (pss_cons (ps_if (pt_cmpR op_eq (pe_ix ix_tup (pv 0) pe_int (fun _ _ => rfl)) (WP.pe_strL [116, 101, 120, 116] (by decide +kernel)) (nomark _)) (pss_one (ps_ret (pe_slice sl_str (pe_ix ix_list (pe_lst (WP.pa_consN (WP.pe_strL [97] (by decide +kernel)) (WP.pa_consN (WP.pe_strL [98, 32, 99] (by decide +kernel)) (WP.pa_consN (WP.pe_strL [120, 121, 122] (by decide +kernel)) pa_nil)))) (pe_op op_mod (pe_op op_fdiv (pv 1) pe_int) pe_int) (fun _ _ => rfl)) po_none (po_some (pe_ix ix_tup (pv 0) pe_int (fun _ _ => rfl)))))) pss_nil)
      (pss_cons (ps_set (i := 2) sc__law_value.nd rfl (Or.inl rfl) pe_int)
      (pss_cons (ps_for PassesOwn.never rfl (pi_range1 rfl B.b_range (WP.pa_consN (pe_op op_add (pe_ix ix_tup (pv 0) pe_int (fun _ _ => rfl)) (pe_ix ix_tup (pv 0) pe_int (fun _ _ => rfl))) pa_nil)) (pg_name (i := 3) sc__law_value.nd rfl (Or.inl rfl)) (pss_one (ps_set (i := 2) sc__law_value.nd rfl (Or.inl rfl) (pe_op op_mul (pv 2) pe_int))))
      (pss_one (ps_ret (WP.pe_callC c__law_decimal hr rfl pass0 (WP.pa_consN (pe_op op_mod (pe_op op_fdiv (pv 1) pe_int) (pv 2)) (WP.pa_consN (pe_ix ix_tup (pv 0) pe_int (fun _ _ => rfl)) pa_nil))))))))), ?_⟩
    k_updF
    refine WP.iC (by decide) ?_
    k_updF
    refine WP.br (fun c => ?_) (fun c => ?_)
    · k_updF
      exact k .non .non H (Same.refl _) rfl (fun t z => nomatch z) (fun u s z => nomatch z)
    k_updF
    cases x with
    | txt n =>
      refine WP.ixT hp WP.at0 ?_
      k_updF
      refine WP.brT (decide_eq_true rfl) ?_
      k_updF
      refine ⟨WP.sz (show 3 ≤ 1000000 by decide), fun L hL => ?_⟩
      have e1 : Same H (upd H L (.lst [.str (SX.S [97]), .str (SX.S [98, 32, 99]), .str (SX.S [120, 121, 122])])) := WP.same_new hL
      k_updF
      refine WP.iC ⟨by decide, by decide⟩ ?_
      k_updF
      refine WP.iC (by decide) ?_
      obtain ⟨t, ht, et⟩ := WP.at_S (ls := [[97], [98, 32, 99], [120, 121, 122]]) (Int.emod_nonneg (r / 3) (show (3 : Int) ≠ 0 by decide)) (Int.emod_lt_of_pos (r / 3) (show (0 : Int) < 3 by decide))
      refine WP.ixL (SqL.of upd_same) et ?_
      generalize upd H L _ = H1 at e1 ⊢
      have t3 : t.length ≤ 3 ∧ ∀ c ∈ t, c < 128 := (show ∀ t ∈ [[97], [98, 32, 99], [120, 121, 122]], t.length ≤ 3 ∧ ∀ c ∈ t, c < 128 by decide) t ht
      k_updF
      refine WP.ixT (WP.sqt e1 hp) WP.at1 ?_
      k_updF
      refine WP.slTo (by omega) (by rw [sizeLine_eq]; have : n ≤ 13 := hx2; omega) ?_
      rw [Int.toNat_natCast]
      exact k _ (.txt (t.take n)) H1 e1 rfl (fun u z => by cases z; exact ⟨by rw [List.length_take]; omega, fun c hc => t3.2 c (List.mem_of_mem_take hc)⟩) (fun u s z => nomatch z)
    | pic q =>
      have h0 : ∃ z, atI q.vs (0 : Int) = some (.str (SX.S z)) ∧ z ≠ [116, 101, 120, 116] := by
        cases q with
        | num sg a b => exact ⟨_, WP.at0, by decide⟩
        | ed m a b s => exact ⟨_, WP.at0, by decide⟩
      obtain ⟨w, hw, hfr, hwf⟩ : ∃ w : Nat, atI q.vs (2 : Int) = some (.int (w : Int)) ∧ atI q.vs (3 : Int) = some (.int (q.fr : Int)) ∧ w + q.fr = q.n := by
        cases q with
        | num sg a b => exact ⟨a, WP.at2, WP.at3, rfl⟩
        | ed m a b s => exact ⟨a, WP.at2, WP.at3, rfl⟩
      obtain ⟨z, hz, nz⟩ := h0
      have hok := hx1 q rfl
      have hn := hok.n1
      refine WP.ixT hp hz ?_
      k_updF
      refine WP.brF (decide_eq_false nz) ?_
      k_updF
      refine WP.ixT hp hw ?_
      k_updF
      refine WP.ixT hp hfr ?_
      k_updF
      refine ⟨_, rfl, by omega, by omega, for_range (lo := 0) (n := ((w : Int) + (q.fr : Int)).toNat) (fun i σ' H' => H' = H ∧ ∃ z : Option V, σ' = [some (.ref p), some (.int r), some (.int ((10 ^ i : Nat) : Int)), z]) ⟨rfl, none, rfl⟩ ?_ ?_⟩
      · rintro i σ' H' hi ⟨rfl, z, rfl⟩
        k_updF
        refine WP.iC (.inr ⟨by decide, by decide⟩) ?_
        k_updF
        exact ⟨rfl, _, by rw [Nat.pow_succ]; push_cast; rfl⟩
      rintro σ' H' ⟨rfl, z, rfl⟩
      have hp18 : 10 ^ ((w : Int) + (q.fr : Int)).toNat ≤ 10 ^ 18 := Nat.pow_le_pow_right (by decide) (by omega)
      have hp0 : 0 < 10 ^ ((w : Int) + (q.fr : Int)).toNat := Nat.pow_pos (by decide)
      generalize 10 ^ ((w : Int) + (q.fr : Int)).toNat = lim at hp18 hp0 ⊢
      k_updF
      refine WP.iC ⟨by decide, by decide⟩ ?_
      k_updF
      refine WP.iC (by omega) ?_
      k_updF
      refine WP.ixT hp hfr ?_
      k_updF
      have g0 := Int.emod_nonneg (r / 9) (show (lim : Int) ≠ 0 by omega)
      have g1 := Int.emod_lt_of_pos (r / 9) (show (0 : Int) < (lim : Int) by omega)
      refine ⟨_, _, rfl, by omega, by omega, fun a H2 e2 h2 => ?_⟩
      rw [Int.toNat_natCast] at h2
      have ha := MD.nrm_abs q.fr (r / 9 % (lim : Int))
      have hb := MD.nrm_le q.fr (r / 9 % (lim : Int))
      refine k _ (.dec (MD.nrm (r / 9 % (lim : Int)) q.fr).1 (MD.nrm (r / 9 % (lim : Int)) q.fr).2) H2 e2 ⟨a, rfl, .inl (.inl h2)⟩ (fun t z => nomatch z) (fun u s z => ?_)
      cases z
      exact ⟨by omega, by omega⟩
end
abbrev s__law_entries : Stmt := top 39
abbrev N__law_entries : List Str := ["script", "rows", "k", "rich", "found", "row"]
theorem sc__law_entries : FnScope N__law_entries ["script"] (defScope s__law_entries) := ⟨rfl, rfl, rfl, by decide +kernel, rfl, by decide +kernel, by decide +kernel⟩
/-- a list of rows that is being written -/
structure RI (K : PySem.W.Frag) (H H' : Hp) (A : Addr) (xs : List V) (rs : List ML.Row) (n : Nat) : Prop where
  e : ∀ b o, H b = some o → H' b = some o
  nw : H A = none
  y : H' A = some (.lst xs)
  R : ML.RwA K H' xs rs
  ln : rs.length ≤ n
  ok : ∀ r ∈ rs, LOk r
section
variable {K : PySem.W.Frag} {H H' H2 : Hp} {A : Addr} {xs : List V} {rs : List ML.Row} {n : Nat}
theorem RI.nil (h : H' A = none) (e : Same H H') : RI K H (upd H' A (.lst [])) A [] [] 0 := ⟨e.trans (WP.same_new h), e.free h, upd_same, ML.All2.nil, Nat.le_refl _, by simp⟩
theorem RI.le (g : RI K H H' A xs rs n) {m : Nat} (h : n ≤ m) : RI K H H' A xs rs m := ⟨g.e, g.nw, g.y, g.R, Nat.le_trans g.ln h, g.ok⟩
theorem RI.same (g : RI K H H' A xs rs n) (e : Same H' H2) : RI K H H2 A xs rs n := ⟨Same.trans (by exact g.e) e, g.nw, e _ _ g.y, g.R.keep fun b us h => WP.sqt e h, g.ln, g.ok⟩
theorem RI.sz (g : RI K H H' A xs rs n) (h : n ≤ 1000) : xs.length < sizeLine := by have := g.R.1; have := g.ln; rw [sizeLine_eq]; omega
theorem RI.app (g : RI K H H' A xs rs n) {p : Addr} (hp : H' p = none) (r : ML.Row) (hr : LOk r) {pv vv : V} (h1 : ML.PicV K H' pv r.pc) (h2 : ML.ValV K H' vv r.vl) :
    RI K H (upd (upd H' p (.tup [.int (r.lv : Int), .str (SX.S r.nm), pv, .int (r.tm : Int), vv])) A (.lst (xs ++ [.ref p]))) A (xs ++ [.ref p]) (rs ++ [r]) (n + 1) :=
  ⟨fun b o h => by
    have hb := g.e b o h
    rw [upd_ne (fun z => by rw [z, g.nw] at h; cases h), upd_ne (ne_of_none hb hp)]; exact hb, g.nw, upd_same, app_row r g.y hp g.R h1 h2, by rw [List.length_append]; have := g.ln; show _ + 1 ≤ _; omega, fun r' h => by
    rcases List.mem_append.mp h with h | h
    · exact g.ok r' h
    · rw [List.mem_singleton.mp h]; exact hr⟩
theorem RI.ad (g : RI K H H' A xs rs n) {v : V} {r : ML.Row} (hr : LOk r) (h : ML.RowAt K H' v r) : RI K H (upd H' A (.lst (xs ++ [v]))) A (xs ++ [v]) (rs ++ [r]) (n + 1) := by
  have kp : ∀ b us, SqT K H' b us → SqT K (upd H' A (.lst (xs ++ [v]))) b us := fun b us h => ML.sqt_lst g.y h
  exact ⟨fun b o h => by rw [upd_ne (fun z => by rw [z, g.nw] at h; cases h)]; exact g.e b o h, g.nw, upd_same, ML.All2.app (ML.RwA.keep kp g.R) (ML.All2.one (h.keep kp)), by rw [List.length_append]; have := g.ln; show _ + 1 ≤ _; omega, fun r' h => by
    rcases List.mem_append.mp h with h | h
    · exact g.ok r' h
    · rw [List.mem_singleton.mp h]; exact hr⟩
theorem RI.cat (g : RI K H H' A xs rs n) {p : Addr} {ys : List V} {qs : List ML.Row} {m : Nat} (hp : H' p = none) (hR : ML.RwA K H' ys qs) (hl : qs.length ≤ m) (hok : ∀ r ∈ qs, LOk r) : RI K H (upd H' p (.lst (xs ++ ys))) p (xs ++ ys) (rs ++ qs) (n + m) := by
  have e : Same H' (upd H' p (.lst (xs ++ ys))) := WP.same_new hp
  exact ⟨Same.trans (by exact g.e) e, (show Same H H' from g.e).free hp, upd_same, ML.All2.app (g.R.keep fun b us h => WP.sqt e h) (hR.keep fun b us h => WP.sqt e h), by rw [List.length_append]; have := g.ln; omega, fun r h => (List.mem_append.mp h).elim (g.ok r) (hok r)⟩
end
theorem nm2 {c i : Nat} (hc : c < 128) (hi : i < 10) (x : MR.Res) : [c, 48 + i].length ≤ 20 ∧ [c, 48 + i] ≠ [] ∧ ∀ d ∈ [c, 48 + i], d < 128 := ⟨by show 2 ≤ 20; omega, by simp, fun d h => by
  rcases List.mem_cons.mp h with rfl | h
  · exact hc
  · rw [List.mem_singleton.mp h]; omega⟩
theorem LOk.of {c i lv t : Nat} {x : Option MR.Res} (hc : c < 128) (hi : i < 10) (h1 : 1 ≤ lv) (h9 : lv ≤ 9) (ht : t ≤ 3) (hp : ∀ y, x = some y → (∀ q, y = .pic q → q.Ok) ∧ MR.sizT y ≤ 13) : LOk ⟨lv, [c, 48 + i], x, t, .non⟩ :=
  ⟨(nm2 hc hi (.txt 0)).1, (nm2 hc hi (.txt 0)).2.1, (nm2 hc hi (.txt 0)).2.2, hp, ht, h9, h1, (fun t z => nomatch z), (fun u s z => nomatch z)⟩
theorem num1 {i : Nat} (h : i < 10) : Str.ofString (toString ((i : Nat) : Int)) = SX.S [48 + i] := by rw [SX.num_S, TL.numL_lt h]
theorem lg1 {i : Nat} (h : i < 10) : ((i : Int)).natAbs.log2 < 1920 := by
  rw [show ((i : Int)).natAbs = i by omega]
  by_cases z : i = 0
  · subst z; decide
  · have : i.log2 < 10 := (Nat.log2_lt z).mpr (by omega)
    omega
def sp__law_entries (K : PySem.W.Frag) (mg : WP.MG) : Sp := fun vs H Q _ => ∃ (a : Addr) (ns : List Int), vs = [.ref a] ∧ SqL K H a (ns.map V.int) ∧ lRets K 24 H Q
section
variable {P : Program} {w : World} {K : PySem.W.Frag} {mg : Str → Option Value} {base : Heap}
theorem ok__law_entries {f : Addr} {fd : FuncData} (F : Fun K "_law_entries" "_law_entries" s__law_entries f fd) (B : Blt w K mg) (c__law_rich : WP.Callee P w K mg base CX0 1 "_law_rich" ["cell", "k"] (sp__law_rich K mg)) (c__law_cell : WP.Callee P w K mg base CX0 1 "_law_cell" ["script", "k"] (sp__law_cell K mg)) (c__law_fields : WP.Callee P w K mg base CX0 2 "_law_fields" ["rich", "level", "letter", "count"] (sp__law_fields K mg)) (c__law_picture : WP.Callee P w K mg base CX0 1 "_law_picture" ["rich"] (sp__law_picture K mg)) (c__law_value : WP.Callee P w K mg base CX0 2 "_law_value" ["picture", "rich"] (sp__law_value K mg)) : FnOk P w K mg base CX0 3 f fd ["script"] (sp__law_entries K mg) := by
  refine F.ok sc__law_entries (fun vs H Q E h => ?_) (fun cdv A outer s H vs Q E hr h => ?_)
  · first | (obtain ⟨_, rfl, _⟩ := h; rfl) | (obtain ⟨_, _, rfl, _⟩ := h; rfl) | (obtain ⟨_, _, _, rfl, _⟩ := h; rfl) | (obtain ⟨_, _, _, _, rfl, _⟩ := h; rfl) | (obtain ⟨_, _, _, _, _, rfl, _⟩ := h; rfl) | (obtain ⟨_, _, _, _, _, _, rfl, _⟩ := h; rfl) | (obtain ⟨_, _, _, _, _, _, _, rfl, _⟩ := h; rfl) | (obtain ⟨_, _, _, _, _, _, _, _, rfl, _⟩ := h; rfl) | (obtain ⟨rfl, _⟩ := h; rfl)
  · obtain ⟨a, ns, rfl, ha, k⟩ := h
    refine ⟨_, (pss_cons (ps_set (i := 1) sc__law_entries.nd rfl (Or.inl rfl) (pe_lst pa_nil))
      (pss_cons (ps_for PassesOwn.never rfl (pi_range1 rfl B.b_range (WP.pa_consN (pe_op op_add pe_int (pe_op op_mod (WP.pe_callC c__law_cell hr rfl pass0 (WP.pa_consN (pv 0) (WP.pa_consN pe_int pa_nil))) pe_int)) pa_nil)) (pg_name (i := 2) sc__law_entries.nd rfl (Or.inl rfl)) (pss_cons (ps_set (i := 3) sc__law_entries.nd rfl (Or.inl rfl) (WP.pe_callC c__law_rich hr rfl pass0 (WP.pa_consN (WP.pe_callC c__law_cell hr rfl pass0 (WP.pa_consN (pv 0) (WP.pa_consN (pe_op op_add pe_int (pv 2)) pa_nil))) (WP.pa_consN (pv 2) pa_nil))))
      (pss_cons (ps_if (pt_cmpR op_eq (pe_op op_mod (pv 3) pe_int) pe_int (nomark _)) (pss_cons (ps_expr (pe_bm PySem.F.plainAttrs_list PySem.F.slot_list_append PySem.F.type_list_append mt_append (pv 1) (WP.pa_consN (pe_tup (WP.pa_consN pe_int (WP.pa_consN (pe_op WP.op_addS (WP.pe_strL [114] (by decide +kernel)) (pe_callTy WP.c_str (by rfl) B.b_str (by decide +kernel) (WP.pa_consN (pv 2) pa_nil))) (WP.pa_consN (WP.pe_callC c__law_picture hr rfl pass0 (WP.pa_consN (pe_op op_fdiv (pv 3) pe_int) pa_nil)) (WP.pa_consN pe_int (WP.pa_consN pe_non pa_nil)))))) pa_nil)))
      (pss_one ps_continue)) pss_nil)
      (pss_cons (ps_expr (pe_bm PySem.F.plainAttrs_list PySem.F.slot_list_append PySem.F.type_list_append mt_append (pv 1) (WP.pa_consN (pe_tup (WP.pa_consN pe_int (WP.pa_consN (pe_op WP.op_addS (WP.pe_strL [114] (by decide +kernel)) (pe_callTy WP.c_str (by rfl) B.b_str (by decide +kernel) (WP.pa_consN (pv 2) pa_nil))) (WP.pa_consN pe_non (WP.pa_consN pe_int (WP.pa_consN pe_non pa_nil)))))) pa_nil)))
      (pss_cons (ps_set (i := 1) sc__law_entries.nd rfl (Or.inl rfl) (pe_op op_cat (pv 1) (WP.pe_callC c__law_fields hr rfl pass0 (WP.pa_consN (pe_op op_fdiv (pv 3) pe_int) (WP.pa_consN pe_int (WP.pa_consN (pe_op WP.op_addS (WP.pe_strL [102] (by decide +kernel)) (pe_callTy WP.c_str (by rfl) B.b_str (by decide +kernel) (WP.pa_consN (pv 2) pa_nil))) (WP.pa_consN (pe_op op_add (pe_op op_mod (pe_op op_fdiv (pv 3) pe_int) pe_int) pe_int) pa_nil)))))))
      (Evl.pss_cut (ps_if (pt_cmpR op_gt (pe_op op_mod (pv 3) pe_int) pe_int (nomark _)) (pss_cons (ps_expr (pe_bm PySem.F.plainAttrs_list PySem.F.slot_list_append PySem.F.type_list_append mt_append (pv 1) (WP.pa_consN (pe_tup (WP.pa_consN pe_int (WP.pa_consN (pe_op WP.op_addS (WP.pe_strL [103] (by decide +kernel)) (pe_callTy WP.c_str (by rfl) B.b_str (by decide +kernel) (WP.pa_consN (pv 2) pa_nil))) (WP.pa_consN pe_non (WP.pa_consN (pe_op op_mod (pe_op op_fdiv (pv 3) pe_int) pe_int) (WP.pa_consN pe_non pa_nil)))))) pa_nil)))
      (pss_one (ps_set (i := 1) sc__law_entries.nd rfl (Or.inl rfl) (pe_op op_cat (pv 1) (WP.pe_callC c__law_fields hr rfl pass0 (WP.pa_consN (pe_op op_fdiv (pv 3) pe_int) (WP.pa_consN (pe_op op_add pe_int (pe_op op_mod (pe_op op_fdiv (pv 3) pe_int) pe_int)) (WP.pa_consN (pe_op WP.op_addS (WP.pe_strL [104] (by decide +kernel)) (pe_callTy WP.c_str (by rfl) B.b_str (by decide +kernel) (WP.pa_consN (pv 2) pa_nil))) (WP.pa_consN (pe_op op_add (pe_op op_mod (pe_op op_fdiv (pv 3) pe_int) pe_int) pe_int) pa_nil))))))))) pss_nil)
      (pss_one (ps_if (pt_cmpR op_eq (pe_op op_mod (pv 3) pe_int) pe_int (nomark _)) (pss_one (ps_set (i := 1) sc__law_entries.nd rfl (Or.inl rfl) (pe_op op_cat (pv 1) (WP.pe_callC c__law_fields hr rfl pass0 (WP.pa_consN (pe_op op_fdiv (pv 3) pe_int) (WP.pa_consN pe_int (WP.pa_consN (pe_op WP.op_addS (WP.pe_strL [107] (by decide +kernel)) (pe_callTy WP.c_str (by rfl) B.b_str (by decide +kernel) (WP.pa_consN (pv 2) pa_nil))) (WP.pa_consN pe_int pa_nil)))))))) pss_nil))))))))
      (pss_cons (ps_set (i := 4) sc__law_entries.nd rfl (Or.inl rfl) (pe_lst pa_nil))
      (pss_cons (ps_for PassesOwn.never rfl (pi_range1 rfl B.b_range (WP.pa_consN (pe_callB WP.c_len (by rfl) B.b_len (by decide +kernel) (WP.pa_consN (pv 1) pa_nil)) pa_nil)) (pg_name (i := 2) sc__law_entries.nd rfl (Or.inl rfl)) (pss_cons (ps_set (i := 5) sc__law_entries.nd rfl (Or.inl rfl) (pe_ix ix_list (pv 1) (pv 2) (fun _ _ => rfl)))
      (Evl.pss_cut (ps_if (pt_cmpR op_notN (pe_ix ix_tup (pv 5) pe_int (fun _ _ => rfl)) pe_non (nomark _)) (pss_one (ps_set (i := 5) sc__law_entries.nd rfl (Or.inl rfl) (pe_op op_catT (pe_slice sl_tup (pv 5) po_none (po_some pe_int)) (pe_tup (WP.pa_consN (WP.pe_callC c__law_value hr rfl pass0 (WP.pa_consN (pe_ix ix_tup (pv 5) pe_int (fun _ _ => rfl)) (WP.pa_consN (WP.pe_callC c__law_rich hr rfl pass0 (WP.pa_consN (WP.pe_callC c__law_cell hr rfl pass0 (WP.pa_consN (pv 0) (WP.pa_consN pe_int pa_nil))) (WP.pa_consN (pe_op op_add pe_int (pv 2)) pa_nil))) pa_nil))) pa_nil))))) pss_nil)
      (pss_one (ps_expr (pe_bm PySem.F.plainAttrs_list PySem.F.slot_list_append PySem.F.type_list_append mt_append (pv 4) (WP.pa_consN (pv 5) pa_nil)))))))
      (pss_one (ps_ret (pv 4))))))), ?_⟩
    k_updF
    refine ⟨Nat.zero_le _, fun D hD => ?_⟩
    have g0 := RI.nil (K := K) hD (Same.refl H)
    generalize upd H D _ = H0 at g0 ⊢
    k_updF
    refine ⟨a, ns, _, rfl, WP.sql g0.e ha, by decide, fun c _ => ?_⟩
    k_updF
    refine WP.iC (by decide) ?_
    k_updF
    have c0 := Int.emod_nonneg c (show (3 : Int) ≠ 0 by decide)
    have c1 := Int.emod_lt_of_pos c (show (0 : Int) < 3 by decide)
    obtain ⟨n, hn⟩ : ∃ n : Nat, 1 + c % 3 = (n : Int) := ⟨(1 + c % 3).toNat, by omega⟩
    rw [hn]
    refine ⟨_, rfl, by omega, by omega, for_range (lo := 0) (n := n) (fun i σ' H' => ∃ (z1 z2 : Option V) (A : Addr) (xs : List V) (rs : List ML.Row), σ' = [some (.ref a), some (.ref A), z1, z2, none, none] ∧ RI K H H' A xs rs (8 * i))
      ⟨none, none, D, [], [], rfl, g0⟩ ?_ ?_⟩
    · clear g0
      rintro i σ' H' hi ⟨z1, z2, A, xs, rs, rfl, g⟩
      rw [Int.zero_add]
      k_updF
      refine ⟨a, ns, _, rfl, WP.sql g.e ha, by omega, fun c _ => ?_⟩
      k_updF
      refine ⟨c, i, rfl, fun r hr0 => ?_⟩
      k_updF
      refine WP.iC (by decide) ?_
      k_updF
      refine WP.br (fun c4 => ?_) (fun c4 => ?_)
      · k_updF
        refine ⟨.inl ⟨rfl, _, SqL.of g.y⟩, ?_⟩
        k_updF
        refine WP.strI (lg1 (by omega)) ?_
        rw [num1 (by omega)]
        refine WP.catS ?_ (by rw [sizeLine_eq]; show 1 + 1 ≤ _; decide)
        k_updF
        refine WP.iC ⟨by decide, by decide⟩ ?_
        k_updF
        refine ⟨_, rfl, fun x hx1 hx2 a2 H2 e2 ha2 => ?_⟩
        have hpc : ∀ y, some x = some y → (∀ q, y = .pic q → q.Ok) ∧ MR.sizT y ≤ 13 := fun y z => by cases z; exact ⟨hx1, hx2⟩
        k_updF
        refine ⟨WP.sz (show 5 ≤ 1000000 by decide), fun p hp => ?_⟩
        have g2 := (g.same e2).app hp ⟨1, [114, 48 + i], some x, 0, .non⟩ (.of (by decide) (by omega) (by decide) (by decide) (by decide) hpc) ⟨a2, rfl, .inl (.inl ha2)⟩ rfl
        have y3 := (WP.same_new hp : Same H2 (upd H2 p (.tup [.int ((1 : Nat) : Int), .str (SX.S [114, 48 + i]), .ref a2, .int ((0 : Nat) : Int), .non]))) _ _ (g.same e2).y
        k_updF
        refine WP.appL y3 (g.sz (by omega)) ?_
        k_updF
        exact ⟨_, _, _, _, _, rfl, g2.le (by omega)⟩
      k_updF
      refine ⟨.inl ⟨rfl, _, SqL.of g.y⟩, ?_⟩
      k_updF
      refine WP.strI (lg1 (by omega)) ?_
      rw [num1 (by omega)]
      refine WP.catS ?_ (by rw [sizeLine_eq]; show 1 + 1 ≤ _; decide)
      k_updF
      refine ⟨WP.sz (show 5 ≤ 1000000 by decide), fun p hp => ?_⟩
      have g2 := g.app (pv := .non) (vv := .non) hp ⟨1, [114, 48 + i], none, 0, .non⟩ (.of (by decide) (by omega) (by decide) (by decide) (by decide) (fun y z => nomatch z)) rfl rfl
      have y3 := (WP.same_new hp : Same H' (upd H' p (.tup [.int ((1 : Nat) : Int), .str (SX.S [114, 48 + i]), .non, .int ((0 : Nat) : Int), .non]))) _ _ g.y
      k_updF
      refine WP.appL y3 (g.sz (by omega)) ?_
      clear g y3
      replace g2 := g2.le (m := 8 * i + 1) (by omega)
      k_updF
      refine WP.iC ⟨by decide, by decide⟩ ?_
      k_updF
      refine WP.strI (lg1 (by omega)) ?_
      rw [num1 (by omega)]
      refine WP.catS ?_ (by rw [sizeLine_eq]; show 1 + 1 ≤ _; decide)
      k_updF
      refine WP.iC ⟨by decide, by decide⟩ ?_
      k_updF
      refine WP.iC (by decide) ?_
      k_updF
      generalize hG : upd (upd H' p _) A _ = G
      replace g2 : RI K H G A (xs ++ [.ref p]) (rs ++ [⟨1, [114, 48 + i], none, 0, .non⟩]) (8 * i + 1) := by rw [← hG]; exact g2
      clear hG hp
      generalize xs ++ [V.ref p] = xs at g2 ⊢
      generalize rs ++ [_] = rs at g2
      have d0 := Int.emod_nonneg (r / 5) (show (3 : Int) ≠ 0 by decide)
      have d1 := Int.emod_lt_of_pos (r / 5) (show (0 : Int) < 3 by decide)
      obtain ⟨m, hm⟩ : ∃ m : Nat, r / 5 % 3 + 1 = (m : Int) := ⟨(r / 5 % 3 + 1).toNat, by omega⟩
      rw [hm]
      refine ⟨_, 5, _, m, rfl, by omega, by decide, by decide, by show 2 ≤ 10; decide, (nm2 (by decide) (by omega) (.txt 0)).2.2, by omega, fun b2 ys qs H2 e2 h1 h2 h3 h4 => ?_⟩
      k_updF
      refine WP.catLL (g2.same e2).y h1 (by have := g2.R.1; have := g2.ln; have := h2.1; omega) fun A2 hA2 => ?_
      replace g2 := ((g2.same e2).cat hA2 h2 h3 h4).le (m := 8 * i + 4) (by omega)
      generalize upd H2 A2 _ = G at g2 ⊢
      generalize xs ++ ys = xs at g2 ⊢
      generalize rs ++ qs = rs at g2
      clear e2 h1 h2 h3 h4 hm d0 d1 c4
      k_updF
      refine WP.cut (fun σ' H' => ∃ (A : Addr) (xs : List V) (rs : List ML.Row), σ' = [some (.ref a), some (.ref A), some (.int (i : Int)), some (.int r), none, none] ∧ RI K H H' A xs rs (8 * i + 7)) ?_ ?_
      · k_updF
        refine WP.iC (by decide) ?_
        k_updF
        refine WP.br (fun c5 => ?_) (fun c5 => ?_)
        · k_updF
          refine ⟨.inl ⟨rfl, _, SqL.of g2.y⟩, ?_⟩
          k_updF
          refine WP.strI (lg1 (by omega)) ?_
          rw [num1 (by omega)]
          refine WP.catS ?_ (by rw [sizeLine_eq]; show 1 + 1 ≤ _; decide)
          k_updF
          refine WP.iC ⟨by decide, by decide⟩ ?_
          k_updF
          refine WP.iC (by decide) ?_
          k_updF
          have t0 := Int.emod_nonneg (r / 8) (show (4 : Int) ≠ 0 by decide)
          have t1 := Int.emod_lt_of_pos (r / 8) (show (0 : Int) < 4 by decide)
          obtain ⟨t, ht⟩ : ∃ t : Nat, r / 8 % 4 = (t : Int) := ⟨(r / 8 % 4).toNat, by omega⟩
          rw [ht]
          refine ⟨WP.sz (show 5 ≤ 1000000 by decide), fun p hp => ?_⟩
          have g3 := g2.app (pv := .non) (vv := .non) hp ⟨5, [103, 48 + i], none, t, .non⟩ (.of (by decide) (by omega) (by decide) (by decide) (by omega) (fun y z => nomatch z)) rfl rfl
          have y3 := (WP.same_new hp : Same G (upd G p (.tup [.int ((5 : Nat) : Int), .str (SX.S [103, 48 + i]), .non, .int (t : Int), .non]))) _ _ g2.y
          k_updF
          refine WP.appL y3 (g2.sz (by omega)) ?_
          clear y3
          generalize hG : upd (upd G p _) A2 _ = G3
          replace g3 : RI K H G3 A2 (xs ++ [.ref p]) (rs ++ [⟨5, [103, 48 + i], none, t, .non⟩]) (8 * i + 4 + 1) := by rw [← hG]; exact g3
          clear hG hp g2
          generalize xs ++ [V.ref p] = xs at g3 ⊢
          generalize rs ++ [_] = rs at g3
          k_updF
          refine WP.iC ⟨by decide, by decide⟩ ?_
          k_updF
          refine WP.iC ⟨by decide, by decide⟩ ?_
          k_updF
          refine WP.iC (by decide) ?_
          k_updF
          refine WP.strI (lg1 (by omega)) ?_
          rw [num1 (by omega)]
          refine WP.catS ?_ (by rw [sizeLine_eq]; show 1 + 1 ≤ _; decide)
          k_updF
          refine WP.iC ⟨by decide, by decide⟩ ?_
          k_updF
          refine WP.iC (by decide) ?_
          k_updF
          have d0 := Int.emod_nonneg (r / 21) (show (2 : Int) ≠ 0 by decide)
          have d1 := Int.emod_lt_of_pos (r / 21) (show (0 : Int) < 2 by decide)
          obtain ⟨m, hm⟩ : ∃ m : Nat, r / 21 % 2 + 1 = (m : Int) := ⟨(r / 21 % 2 + 1).toNat, by omega⟩
          have l0 := Int.emod_nonneg (r / 9) (show (3 : Int) ≠ 0 by decide)
          have l1 := Int.emod_lt_of_pos (r / 9) (show (0 : Int) < 3 by decide)
          obtain ⟨lv, hlv⟩ : ∃ lv : Nat, 7 + r / 9 % 3 = (lv : Int) := ⟨(7 + r / 9 % 3).toNat, by omega⟩
          rw [hm, hlv]
          refine ⟨_, lv, _, m, rfl, by omega, by omega, by omega, by show 2 ≤ 10; decide, (nm2 (by decide) (by omega) (.txt 0)).2.2, by omega, fun b2 ys qs H2 e2 h1 h2 h3 h4 => ?_⟩
          k_updF
          refine WP.catLL (g3.same e2).y h1 (by have := g3.R.1; have := g3.ln; have := h2.1; omega) fun A3 hA3 => ?_
          exact ⟨_, _, _, rfl, ((g3.same e2).cat hA3 h2 h3 h4).le (by omega)⟩
        · k_updF
          exact ⟨_, _, _, rfl, g2.le (by omega)⟩
      clear g2
      rintro σ' G ⟨A, xs, rs, rfl, g⟩
      k_updF
      refine WP.iC (by decide) ?_
      k_updF
      refine WP.br (fun c5 => ?_) (fun c5 => ?_)
      · k_updF
        refine WP.iC ⟨by decide, by decide⟩ ?_
        k_updF
        refine WP.strI (lg1 (by omega)) ?_
        rw [num1 (by omega)]
        refine WP.catS ?_ (by rw [sizeLine_eq]; show 1 + 1 ≤ _; decide)
        k_updF
        refine ⟨_, 5, _, 1, rfl, by omega, by omega, by omega, by show 2 ≤ 10; decide, (nm2 (by decide) (by omega) (.txt 0)).2.2, by omega, fun b2 ys qs H2 e2 h1 h2 h3 h4 => ?_⟩
        k_updF
        refine WP.catLL (g.same e2).y h1 (by have := g.R.1; have := g.ln; have := h2.1; omega) fun A3 hA3 => ?_
        exact ⟨_, _, _, _, _, rfl, ((g.same e2).cat hA3 h2 h3 h4).le (by omega)⟩
      · k_updF
        exact ⟨_, _, _, _, _, rfl, g.le (by omega)⟩
    rintro σ' H' ⟨z1, z2, A, xs, rs, rfl, g⟩
    replace g := g.le (m := 24) (by omega)
    replace ha := WP.sql g.e ha
    k_updF
    refine ⟨Nat.zero_le _, fun D2 hD2 => ?_⟩
    have f0 := RI.nil (K := K) hD2 (Same.refl H')
    have h24 := g.ln
    have hx24 := g.R.1
    generalize upd H' D2 _ = H0 at f0 ⊢
    k_updF
    refine WP.lenL (SqL.of (f0.e _ _ g.y)) ?_
    k_updF
    refine ⟨_, rfl, by omega, by omega, for_range (lo := 0) (n := xs.length) (fun i σ' H2 => ∃ (z1 z2 z3 : Option V) (ys : List V) (qs : List ML.Row), σ' = [some (.ref a), some (.ref A), z1, z2, some (.ref D2), z3] ∧ RI K H' H2 D2 ys qs i)
      ⟨_, _, none, [], [], rfl, f0⟩ ?_ ?_⟩
    · clear f0
      rintro i σ' H2 hi ⟨z1, z2, z3, ys, qs, rfl, f⟩
      rw [Int.zero_add]
      obtain ⟨r, hr, v, hv, hrv⟩ : ∃ r, rs[i]? = some r ∧ ∃ v, xs[i]? = some v ∧ ML.RowAt K H2 v r := by
        obtain ⟨r, h1, h2⟩ := g.R.get (List.getElem?_eq_getElem (l := xs) (i := i) hi)
        exact ⟨r, h1, _, List.getElem?_eq_getElem hi, h2.keep fun b us h => WP.sqt f.e h⟩
      k_updF
      refine WP.ixL (SqL.of (f.e _ _ g.y)) (atI_nat hv) ?_
      have hok := g.ok r (List.mem_of_getElem? hr)
      obtain ⟨a5, pv, vv, rfl, ha5, hpv, hvv⟩ := hrv
      k_updF
      refine WP.cut (fun σ' H3 => ∃ (v : V) (r' : ML.Row), σ' = [some (.ref a), some (.ref A), some (.int (i : Int)), z2, some (.ref D2), some v] ∧ RI K H' H3 D2 ys qs i ∧ ML.RowAt K H3 v r' ∧ LOk r') ?_ ?_
      · k_updF
        refine WP.ixT ha5 WP.at2 ?_
        k_updF
        refine ⟨rfl, ?_⟩
        k_updF
        cases hpc : r.pc with
        | none =>
          rw [hpc] at hpv
          have hpv : pv = .non := hpv
          refine WP.brF (by rw [decide_eq_true hpv]; rfl) ?_
          k_updF
          exact ⟨_, r, rfl, f, ⟨a5, pv, vv, rfl, ha5, by rw [hpc]; exact hpv, hvv⟩, hok⟩
        | some x =>
          have hpv' := hpv
          rw [hpc] at hpv'
          obtain ⟨q, rfl, hq⟩ := hpv'
          refine WP.brT rfl ?_
          k_updF
          refine ⟨a5, _, rfl, ha5, (by show ¬ (HT.sIx 5 0 none = 0 ∧ HT.sIx 5 5 (some 4) = 5); decide), fun p1 hp1 => ?_⟩
          have s1 : Same H2 (upd H2 p1 (.tup [.int (r.lv : Int), .str (SX.S r.nm), .ref q, .int (r.tm : Int)])) := WP.same_new hp1
          have hp1s : (upd H2 p1 (.tup [.int (r.lv : Int), .str (SX.S r.nm), .ref q, .int (r.tm : Int)])) p1 = some (.tup [.int (r.lv : Int), .str (SX.S r.nm), .ref q, .int (r.tm : Int)]) := upd_same
          generalize hG : upd H2 p1 _ = H4
          replace s1 : Same H2 H4 := by rw [← hG]; exact s1
          replace hp1s : H4 p1 = some (.tup [.int (r.lv : Int), .str (SX.S r.nm), .ref q, .int (r.tm : Int)]) := by rw [← hG]; exact hp1s
          clear hG
          k_updF
          refine WP.ixT (WP.sqt s1 ha5) WP.at2 ?_
          k_updF
          refine ⟨a, ns, _, rfl, WP.sql (Same.trans (by exact f.e) s1) ha, by decide, fun c2 _ => ?_⟩
          k_updF
          refine ⟨c2, 50 + i, rfl, fun r2 hr2 => ?_⟩
          k_updF
          refine ⟨q, x, r2, rfl, WP.sqt s1 hq, hr2, (hok.pc x hpc).1, (hok.pc x hpc).2, fun v2 vl H5 e5 h5 h6 h7 => ?_⟩
          k_updF
          refine ⟨WP.sz (show 1 ≤ 1000000 by decide), fun p2 hp2 => ?_⟩
          k_updF
          have s2 : Same H5 (upd H5 p2 (.tup [v2])) := WP.same_new hp2
          refine ⟨p1, p2, _, _, rfl, rfl, SqT.of (s2 _ _ (e5 _ _ hp1s)), SqT.of upd_same, by simp, (by rw [sizeLine_eq]; show 4 + 1 ≤ _; decide), (fun z => nomatch z), fun _ p3 hp3 => ?_⟩
          have e6 : Same H2 (upd (upd H5 p2 (.tup [v2])) p3 (.tup ([.int (r.lv : Int), .str (SX.S r.nm), .ref q, .int (r.tm : Int)] ++ [v2]))) := s1.trans (e5.trans (s2.trans (WP.same_new hp3)))
          have e7 : Same H5 (upd (upd H5 p2 (.tup [v2])) p3 (.tup ([.int (r.lv : Int), .str (SX.S r.nm), .ref q, .int (r.tm : Int)] ++ [v2]))) := s2.trans (WP.same_new hp3)
          k_updF
          exact ⟨_, ⟨r.lv, r.nm, r.pc, r.tm, vl⟩, rfl, f.same e6, ⟨p3, .ref q, v2, rfl, SqT.of upd_same, hpv.keep fun b us h => WP.sqt e6 h, h5.keep fun b us h => WP.sqt e7 h⟩, ⟨hok.nl, hok.ne, hok.nc, hok.pc, hok.tm, hok.lv, hok.l1, h6, h7⟩⟩
      rintro σ' H3 ⟨v, r', rfl, f, hv, hr'⟩
      k_updF
      refine ⟨.inl ⟨rfl, _, SqL.of f.y⟩, ?_⟩
      k_updF
      refine WP.appL f.y (f.sz (by omega)) ?_
      k_updF
      exact ⟨_, _, _, _, _, rfl, f.ad hr' hv⟩
    rintro σ' H2 ⟨z1, z2, z3, ys, qs, rfl, f⟩
    k_updF
    exact k D2 ys qs H2 (Same.trans (by exact g.e) f.e) f.y f.R (by have := f.ln; omega) f.ok
end
abbrev s__has_right_level : Stmt := top 25
abbrev N__has_right_level : List Str := ["level", "path", "other"]
theorem sc__has_right_level : FnScope N__has_right_level ["level", "path"] (defScope s__has_right_level) := ⟨rfl, rfl, rfl, by decide +kernel, rfl, by decide +kernel, by decide +kernel⟩
def sp__has_right_level (K : PySem.W.Frag) (mg : WP.MG) : Sp := fun vs H Q _ => ∃ (a : Addr) (lv : Nat) (xs : List V) (p : List ML.Row), vs = [.int (lv : Int), .ref a] ∧ SqL K H a xs ∧ ML.RwA K H xs p ∧ p.length ≤ 1000 ∧ ∀ H', Same H H' → Q (.bl (ML.right lv p)) H'
section
variable {P : Program} {w : World} {K : PySem.W.Frag} {mg : Str → Option Value} {base : Heap}
theorem ok__has_right_level {f : Addr} {fd : FuncData} (F : Fun K "_has_right_level" "_has_right_level" s__has_right_level f fd) (B : Blt w K mg)  : FnOk P w K mg base CX0 1 f fd ["level", "path"] (sp__has_right_level K mg) := by
  refine F.ok sc__has_right_level (fun vs H Q E h => ?_) (fun cdv A outer s H vs Q E hr h => ?_)
  · first | (obtain ⟨_, rfl, _⟩ := h; rfl) | (obtain ⟨_, _, rfl, _⟩ := h; rfl) | (obtain ⟨_, _, _, rfl, _⟩ := h; rfl) | (obtain ⟨_, _, _, _, rfl, _⟩ := h; rfl) | (obtain ⟨_, _, _, _, _, rfl, _⟩ := h; rfl) | (obtain ⟨_, _, _, _, _, _, rfl, _⟩ := h; rfl) | (obtain ⟨_, _, _, _, _, _, _, rfl, _⟩ := h; rfl) | (obtain ⟨_, _, _, _, _, _, _, _, rfl, _⟩ := h; rfl) | (obtain ⟨rfl, _⟩ := h; rfl)
  · obtain ⟨a, lv, xs, p, rfl, ha, hr, hl, k⟩ := h
    refine ⟨_, (pss_cons (ps_if (pt_not (pt_truth (pv 1) (by intro _; rfl))) (pss_one (ps_ret (pe_cmpR op_eq (pv 0) pe_int (nomark _)))) pss_nil)
      (pss_one (ps_ret (pe_or (pe_cmpR op_gt (pv 0) (pe_ix ix_tup (pe_ix ix_list (pv 1) (pe_un un_neg pe_int) (fun _ _ => rfl)) pe_int (fun _ _ => rfl)) (nomark _)) (pe_one (pe_cmpR op_in_seq (pv 0) (pe_lc (own := [("other", 2)]) (g := gName 2) (tt := tYes) rfl sc__has_right_level.nd (pi_list (pv 1)) (blkOk_by (own := [("other", 2)]) (N := N__has_right_level) (sc := defScope s__has_right_level) (by decide +kernel)) (fun _ _ _ _ _ => pg_name (i := 2) sc__has_right_level.nd rfl (Or.inl rfl)) (fun _ _ _ _ _ => pts_nil) (fun _ _ _ _ _ => (pe_ix (WP.ix_tupK (K := K) rfl) (pv 2) pe_int (fun _ _ => rfl)))) rfl)))))), ?_⟩
    k_updF
    refine ⟨_, WP.trL ha, ?_⟩
    have hx := hr.1
    cases ep : p.getLast? with
    | none =>
      have hp : p = [] := List.getLast?_eq_none_iff.mp ep
      subst hp
      have hxs : xs = [] := List.length_eq_zero_iff.mp hx
      subst hxs
      refine WP.brT rfl ?_
      k_updF
      have z := k H (Same.refl _)
      rw [show (decide ((lv : Int) = 1)) = ML.right lv [] from decide_eq_decide.mpr (by omega)]
      exact z
    | some o =>
      obtain ⟨v, hv, b, pv, vv, rfl, hb, _, _⟩ := ML.RwA.last hr ep
      have ne : xs.isEmpty = false := by
        cases xs with
        | nil => cases hv
        | cons x t => rfl
      rw [ne]
      refine WP.brF rfl ?_
      k_updF
      refine WP.ixL ha (ML.at_last _ _ hv) ?_
      k_updF
      refine WP.ixT hb WP.at0 ?_
      k_updF
      have er : ML.right lv p = (decide (lv > o.lv) || decide (lv ∈ p.map (·.lv))) := by unfold ML.right; rw [ep]
      by_cases c : (o.lv : Int) < (lv : Int)
      · rw [decide_eq_true c]
        refine WP.brT rfl ?_
        have z := k H (Same.refl _)
        rw [er, decide_eq_true (show lv > o.lv by omega)] at z
        exact z
      · rw [decide_eq_false c]
        refine WP.brF rfl ?_
        k_updF
        refine ⟨a, rfl, ⟨_, ha⟩, fun D hD => lc_list (K := K) (a := a) (xs := xs) (fun i H' => Same H H' ∧ H' D = some (.lst (WP.iL ((p.take i).map (·.lv))))) ⟨WP.same_new hD, upd_same⟩ (fun i H' _ h => WP.sql h.1 ha) ?_ ?_⟩
        · rintro i x H1 hx ⟨e1, hy⟩
          obtain ⟨r, hri, b, pv, vv, rfl, hb, h1, h2⟩ := hr.get hx
          have et : p.take (i + 1) = p.take i ++ [r] := by rw [List.take_succ, hri]; rfl
          have lt := (List.getElem?_eq_some_iff.mp hri).1
          k_updF
          refine ⟨rfl, WP.yes ?_⟩
          k_updF
          refine WP.ixT (WP.sqt e1 hb) WP.at0 ?_
          refine ⟨_, hy, by rw [List.length_map, List.length_map, List.length_take, sizeLine_eq]; omega, WP.same_mut e1 hD, ?_⟩
          rw [upd_same, et, List.map_append, WP.app_iL]; rfl
        rintro H1 ⟨e1, hy⟩
        rw [hr.1, List.take_length] at hy
        refine WP.inNL (SqL.of hy) ?_
        have z := k H1 e1
        rw [er, decide_eq_false (show ¬ lv > o.lv by omega), Bool.false_or] at z
        exact z
end
abbrev s__many_dimensions : Stmt := top 26
abbrev N__many_dimensions : List Str := ["path", "other"]
theorem sc__many_dimensions : FnScope N__many_dimensions ["path"] (defScope s__many_dimensions) := ⟨rfl, rfl, rfl, by decide +kernel, rfl, by decide +kernel, by decide +kernel⟩
def sp__many_dimensions (K : PySem.W.Frag) (mg : WP.MG) : Sp := fun vs H Q _ => ∃ (a : Addr) (xs : List V) (p : List ML.Row), vs = [.ref a] ∧ SqL K H a xs ∧ ML.RwA K H xs p ∧ p.length ≤ 1000 ∧ ∀ H', Same H H' → Q (.int (ML.dims p : Nat)) H'
section
variable {P : Program} {w : World} {K : PySem.W.Frag} {mg : Str → Option Value} {base : Heap}
theorem ok__many_dimensions {f : Addr} {fd : FuncData} (F : Fun K "_many_dimensions" "_many_dimensions" s__many_dimensions f fd) (B : Blt w K mg)  : FnOk P w K mg base CX0 1 f fd ["path"] (sp__many_dimensions K mg) := by
  refine F.ok sc__many_dimensions (fun vs H Q E h => ?_) (fun cdv A outer s H vs Q E hr h => ?_)
  · first | (obtain ⟨_, rfl, _⟩ := h; rfl) | (obtain ⟨_, _, rfl, _⟩ := h; rfl) | (obtain ⟨_, _, _, rfl, _⟩ := h; rfl) | (obtain ⟨_, _, _, _, rfl, _⟩ := h; rfl) | (obtain ⟨_, _, _, _, _, rfl, _⟩ := h; rfl) | (obtain ⟨_, _, _, _, _, _, rfl, _⟩ := h; rfl) | (obtain ⟨_, _, _, _, _, _, _, rfl, _⟩ := h; rfl) | (obtain ⟨_, _, _, _, _, _, _, _, rfl, _⟩ := h; rfl) | (obtain ⟨rfl, _⟩ := h; rfl)
  · obtain ⟨a, xs, p, rfl, ha, hr, hl, k⟩ := h
    refine ⟨_, (pss_one (ps_ret (pe_callB WP.c_len (by rfl) B.b_len (by decide +kernel) (WP.pa_consN (pe_lc (own := [("other", 1)]) (g := gName 1) rfl sc__many_dimensions.nd (pi_list (pv 0)) (blkOk_by (own := [("other", 1)]) (N := N__many_dimensions) (sc := defScope s__many_dimensions) (by decide +kernel)) (fun _ _ _ _ _ => pg_name (i := 1) sc__many_dimensions.nd rfl (Or.inl rfl)) (fun _ _ _ _ _ => (pts_one (pt_cmpR op_gt (pe_ix (WP.ix_tupK (K := K) rfl) (pv 1) pe_int (fun _ _ => rfl)) pe_int (nomark _)))) (fun _ _ _ _ _ => (pv 1))) pa_nil)))), ?_⟩
    k_updF
    refine ⟨a, rfl, ⟨_, ha⟩, fun D hD => lc_list (K := K) (a := a) (xs := xs) (fun i H' => Same H H' ∧ ∃ ys, H' D = some (.lst ys) ∧ ys.length = ML.dims (p.take i)) ⟨WP.same_new hD, [], upd_same, rfl⟩ (fun i H' _ h => WP.sql h.1 ha) ?_ ?_⟩
    · rintro i x H1 hx ⟨e1, ys, hy, ly⟩
      obtain ⟨r, hri, b, pv, vv, rfl, hb, h1, h2⟩ := hr.get hx
      have et : p.take (i + 1) = p.take i ++ [r] := by rw [List.take_succ, hri]; rfl
      have lt := (List.getElem?_eq_some_iff.mp hri).1
      have ed : ML.dims (p.take (i + 1)) = ML.dims (p.take i) + (if 0 < r.tm then 1 else 0) := by
        rw [et, ML.dims_snoc]
      have le : ML.dims (p.take i) ≤ p.length := Nat.le_trans (List.length_filter_le _ _) (by rw [List.length_take]; omega)
      k_updF
      refine ⟨rfl, ?_⟩
      k_updF
      refine WP.ixT (WP.sqt e1 hb) WP.at3 ?_
      k_updF
      by_cases c : (r.tm : Int) > 0
      · rw [decide_eq_true c]
        refine WP.brT rfl ?_
        k_updF
        refine ⟨ys, hy, by rw [sizeLine_eq]; omega, WP.same_mut e1 hD, _, upd_same, ?_⟩
        rw [List.length_append, ly, ed, if_pos (by omega)]; rfl
      · rw [decide_eq_false c]
        refine WP.brF rfl ⟨e1, ys, hy, ?_⟩
        rw [ly, ed, if_neg (by omega)]; rfl
    rintro H1 ⟨e1, ys, hy, ly⟩
    rw [hr.1, List.take_length] at ly
    k_updF
    refine WP.lenL (SqL.of hy) ?_
    rw [ly]
    exact k H1 e1
end
abbrev s_digits_in : Stmt := top 13
abbrev N_digits_in : List Str := ["picture"]
theorem sc_digits_in : FnScope N_digits_in ["picture"] (defScope s_digits_in) := ⟨rfl, rfl, rfl, by decide +kernel, rfl, by decide +kernel, by decide +kernel⟩
def sp_digits_in (K : PySem.W.Frag) (mg : WP.MG) : Sp := fun vs H Q _ => ∃ (p : Addr) (pic : MP.Pic), vs = [.ref p] ∧ SqT K H p pic.vs ∧ WP.RetT [.int (pic.wh : Int), .int (pic.fr : Int)] H Q
section
variable {P : Program} {w : World} {K : PySem.W.Frag} {mg : Str → Option Value} {base : Heap}
theorem ok_digits_in {f : Addr} {fd : FuncData} (F : Fun K "digits_in" "digits_in" s_digits_in f fd) (B : Blt w K mg)  : FnOk P w K mg base CX0 1 f fd ["picture"] (sp_digits_in K mg) := by
  refine F.ok sc_digits_in (fun vs H Q E h => ?_) (fun cdv A outer s H vs Q E hr h => ?_)
  · first | (obtain ⟨_, rfl, _⟩ := h; rfl) | (obtain ⟨_, _, rfl, _⟩ := h; rfl) | (obtain ⟨_, _, _, rfl, _⟩ := h; rfl) | (obtain ⟨_, _, _, _, rfl, _⟩ := h; rfl) | (obtain ⟨_, _, _, _, _, rfl, _⟩ := h; rfl) | (obtain ⟨_, _, _, _, _, _, rfl, _⟩ := h; rfl) | (obtain ⟨_, _, _, _, _, _, _, rfl, _⟩ := h; rfl) | (obtain ⟨_, _, _, _, _, _, _, _, rfl, _⟩ := h; rfl) | (obtain ⟨rfl, _⟩ := h; rfl)
  · obtain ⟨p, pic, rfl, hp, k⟩ := h
    refine ⟨_, (pss_cons (ps_if (pt_cmpR op_eq (pe_ix ix_tup (pv 0) pe_int (fun _ _ => rfl)) (WP.pe_strL [116, 101, 120, 116] (by decide +kernel)) (nomark _)) (pss_one (WP.ps_raiseC rfl takes0 B.e_BadPicture (by exact rfl))) pss_nil)
      (pss_one (ps_ret (pe_tup (WP.pa_consN (pe_ix ix_tup (pv 0) pe_int (fun _ _ => rfl)) (WP.pa_consN (pe_ix ix_tup (pv 0) pe_int (fun _ _ => rfl)) pa_nil)))))), ?_⟩
    cases pic with
    | num sg a b =>
      k_updF
      refine WP.ixT hp WP.at0 ?_
      k_updF
      refine WP.brF (by decide) ?_
      k_updF
      refine WP.ixT hp WP.at2 ?_
      k_updF
      refine WP.ixT hp WP.at3 ?_
      k_updF
      exact ⟨WP.sz2, k.new (Same.refl _)⟩
    | ed m a b s =>
      k_updF
      refine WP.ixT hp WP.at0 ?_
      k_updF
      refine WP.brF (by decide) ?_
      k_updF
      refine WP.ixT hp WP.at2 ?_
      k_updF
      refine WP.ixT hp WP.at3 ?_
      k_updF
      exact ⟨WP.sz2, k.new (Same.refl _)⟩
end
abbrev s_power : Stmt := top 7
abbrev N_power : List Str := ["exponent", "result", "factor", "rest"]
theorem sc_power : FnScope N_power ["exponent"] (defScope s_power) := ⟨rfl, rfl, rfl, by decide +kernel, rfl, by decide +kernel, by decide +kernel⟩
/-- power(e): 10 to the power of e -/
def sp_power (K : PySem.W.Frag) (mg : WP.MG) : Sp := fun vs H Q _ => ∃ e : Int, vs = [.int e] ∧ e ≤ 3000 ∧ Q (.int (10 ^ e.toNat)) H
section
variable {P : Program} {w : World} {K : PySem.W.Frag} {mg : Str → Option Value} {base : Heap}
theorem ok_power {f : Addr} {fd : FuncData} (F : Fun K "power" "power" s_power f fd) (B : Blt w K mg)  : FnOk P w K mg base CX0 1 f fd ["exponent"] (sp_power K mg) := by
  refine F.ok sc_power (fun vs H Q E h => ?_) (fun cdv A outer s H vs Q E hr h => ?_)
  · first | (obtain ⟨_, rfl, _⟩ := h; rfl) | (obtain ⟨_, _, rfl, _⟩ := h; rfl) | (obtain ⟨_, _, _, rfl, _⟩ := h; rfl) | (obtain ⟨_, _, _, _, rfl, _⟩ := h; rfl) | (obtain ⟨_, _, _, _, _, rfl, _⟩ := h; rfl) | (obtain ⟨_, _, _, _, _, _, rfl, _⟩ := h; rfl) | (obtain ⟨_, _, _, _, _, _, _, rfl, _⟩ := h; rfl) | (obtain ⟨_, _, _, _, _, _, _, _, rfl, _⟩ := h; rfl) | (obtain ⟨rfl, _⟩ := h; rfl)
  · obtain ⟨e, rfl, he, k⟩ := h
    refine ⟨_, (pss_cons (ps_set (i := 1) sc_power.nd rfl (Or.inl rfl) pe_int)
      (pss_cons (ps_set (i := 2) sc_power.nd rfl (Or.inl rfl) pe_int)
      (pss_cons (ps_set (i := 3) sc_power.nd rfl (Or.inl rfl) (pv 0))
      (pss_cons (ps_while PassesOwn.never (pt_cmpR op_gt (pv 3) pe_int (nomark _)) (pss_cons (ps_if (pt_cmpR op_eq (pe_op op_mod (pv 3) pe_int) pe_int (nomark _)) (pss_one (ps_set (i := 1) sc_power.nd rfl (Or.inl rfl) (pe_op op_mulW (pv 1) (pv 2)))) pss_nil)
      (pss_cons (ps_set (i := 2) sc_power.nd rfl (Or.inl rfl) (pe_op op_mulW (pv 2) (pv 2)))
      (pss_one (ps_set (i := 3) sc_power.nd rfl (Or.inl rfl) (pe_op op_fdiv (pv 3) pe_int))))))
      (pss_one (ps_ret (pv 1))))))), ?_⟩
    k_updF
    refine ⟨fun m σ H' => ∃ (r b : Nat) (rest : Int), σ = [some (.int e), some (.int (10 ^ r)), some (.int (10 ^ b)), some (.int rest)] ∧ H' = H ∧ m = rest.toNat ∧ (rest ≤ 0 → r = e.toNat) ∧ (0 < rest → r + b * rest.toNat = e.toNat) ∧ 1 ≤ b,
      ⟨e.toNat, 0, 1, e, rfl, rfl, rfl, by omega, by omega, by omega⟩, ?_⟩
    rintro m σ H' ⟨r, b, rest, rfl, rfl, rfl, h1, h2, h3⟩
    k_updF
    refine WP.br (fun c => ?_) (fun c => ?_)
    · have e1 := h2 c
      have hb : b ≤ 3000 := by
        have : b * 1 ≤ b * rest.toNat := Nat.mul_le_mul_left b (by omega)
        omega
      have hrr : r ≤ 3000 := by omega
      have ed : rest.toNat = 2 * (rest / 2).toNat + (rest % 2).toNat := by omega
      refine ⟨fun σ' H2 => ∃ m', m' < rest.toNat ∧ ∃ (r b : Nat) (rest : Int), σ' = [some (.int e), some (.int (10 ^ r)), some (.int (10 ^ b)), some (.int rest)] ∧ H2 = H' ∧ m' = rest.toNat ∧ (rest ≤ 0 → r = e.toNat) ∧ (0 < rest → r + b * rest.toNat = e.toNat) ∧ 1 ≤ b, fun _ _ x => x, ?_⟩
      have step : ∀ r', (rest / 2 ≤ 0 → r' = e.toNat) → (0 < rest / 2 → r' + (b + b) * (rest / 2).toNat = e.toNat) →
          ∃ m', m' < rest.toNat ∧ ∃ (r b' : Nat) (rest' : Int), [some (V.int e), some (.int (10 ^ r')), some (.int (10 ^ b * 10 ^ b)), some (.int (rest / 2))] = [some (.int e), some (.int (10 ^ r)), some (.int (10 ^ b')), some (.int rest')] ∧ H' = H' ∧ m' = rest'.toNat ∧ (rest' ≤ 0 → r = e.toNat) ∧ (0 < rest' → r + b' * rest'.toNat = e.toNat) ∧ 1 ≤ b' := fun r' q1 q2 =>
        ⟨(rest / 2).toNat, by omega, r', b + b, rest / 2, by rw [Int.pow_add], rfl, rfl, q1, q2, by omega⟩
      k_memK; k_memK; k_memK; k_memK; k_memK; k_memK; k_memK
      refine WP.iC (show (0 : Int) < 2 by decide) ?_
      k_updF
      refine WP.br (fun o => ?_) (fun o => ?_)
      · k_updF
        refine WP.iC ((WP.Bt.ten r).w (WP.Bt.ten b)) ?_
        k_updF
        refine WP.iC ((WP.Bt.ten b).w (WP.Bt.ten b)) ?_
        k_updF
        refine WP.iC ⟨by decide, by decide⟩ ?_
        k_updF
        have e2 : b * rest.toNat = (b + b) * (rest / 2).toNat + b := by rw [ed, show (rest % 2).toNat = 1 by omega, Nat.mul_add, ← Nat.mul_assoc, Nat.mul_comm b 2, Nat.two_mul, Nat.mul_one]
        have := step (r + b) (fun q => by rw [show (rest / 2).toNat = 0 by omega] at e2; omega) (fun q => by omega)
        rw [Int.pow_add] at this
        exact this
      · k_updF
        refine WP.iC ((WP.Bt.ten b).w (WP.Bt.ten b)) ?_
        k_updF
        refine WP.iC ⟨by decide, by decide⟩ ?_
        k_updF
        have e2 : b * rest.toNat = (b + b) * (rest / 2).toNat := by rw [ed, show (rest % 2).toNat = 0 by omega, Nat.add_zero, ← Nat.mul_assoc, Nat.mul_comm b 2, Nat.two_mul]
        exact step r (fun q => by omega) (fun q => by omega)
    · k_updF
      rw [h1 (by omega)]
      exact k
end
abbrev s_fits : Stmt := top 9
abbrev N_fits : List Str := ["units", "digits"]
theorem sc_fits : FnScope N_fits ["units", "digits"] (defScope s_fits) := ⟨rfl, rfl, rfl, by decide +kernel, rfl, by decide +kernel, by decide +kernel⟩
def sp_fits (K : PySem.W.Frag) (mg : WP.MG) : Sp := fun vs H Q _ => ∃ u d : Int, vs = [.int u, .int d] ∧ d ≤ 3000 ∧ Q (.bl (decide (u.natAbs < 10 ^ d.toNat))) H
section
variable {P : Program} {w : World} {K : PySem.W.Frag} {mg : Str → Option Value} {base : Heap}
theorem ok_fits {f : Addr} {fd : FuncData} (F : Fun K "fits" "fits" s_fits f fd) (B : Blt w K mg) (c_power : WP.Callee P w K mg base CX0 1 "power" ["exponent"] (sp_power K mg)) : FnOk P w K mg base CX0 2 f fd ["units", "digits"] (sp_fits K mg) := by
  refine F.ok sc_fits (fun vs H Q E h => ?_) (fun cdv A outer s H vs Q E hr h => ?_)
  · first | (obtain ⟨_, rfl, _⟩ := h; rfl) | (obtain ⟨_, _, rfl, _⟩ := h; rfl) | (obtain ⟨_, _, _, rfl, _⟩ := h; rfl) | (obtain ⟨_, _, _, _, rfl, _⟩ := h; rfl) | (obtain ⟨_, _, _, _, _, rfl, _⟩ := h; rfl) | (obtain ⟨_, _, _, _, _, _, rfl, _⟩ := h; rfl) | (obtain ⟨_, _, _, _, _, _, _, rfl, _⟩ := h; rfl) | (obtain ⟨_, _, _, _, _, _, _, _, rfl, _⟩ := h; rfl) | (obtain ⟨rfl, _⟩ := h; rfl)
  · obtain ⟨u, d, rfl, hd, k⟩ := h
    refine ⟨_, (pss_one (ps_ret (pe_cmpR op_lt (pe_callB WP.c_abs (by rfl) B.b_abs (by decide +kernel) (WP.pa_consN (pv 0) pa_nil)) (WP.pe_callC c_power hr rfl pass0 (WP.pa_consN (pv 1) pa_nil)) (nomark _)))), ?_⟩
    k_updF
    refine WP.absI ?_
    k_updF
    refine ⟨_, rfl, hd, ?_⟩
    have e : decide ((u.natAbs : Int) < (10 : Int) ^ d.toNat) = decide (u.natAbs < 10 ^ d.toNat) := by
      have c : ((10 : Int) ^ d.toNat) = ((10 ^ d.toNat : Nat) : Int) := by rw [Int.natCast_pow]; rfl
      rw [c]
      congr 1
      exact propext (by omega)
    k_updF
    rw [e]
    exact k
end
abbrev s_is_signed : Stmt := top 12
abbrev N_is_signed : List Str := ["picture"]
theorem sc_is_signed : FnScope N_is_signed ["picture"] (defScope s_is_signed) := ⟨rfl, rfl, rfl, by decide +kernel, rfl, by decide +kernel, by decide +kernel⟩
def sp_is_signed (K : PySem.W.Frag) (mg : WP.MG) : Sp := fun vs H Q _ => ∃ (p : Addr) (pic : MP.Pic), vs = [.ref p] ∧ SqT K H p pic.vs ∧ Q (.bl pic.sgd) H
section
variable {P : Program} {w : World} {K : PySem.W.Frag} {mg : Str → Option Value} {base : Heap}
theorem ok_is_signed {f : Addr} {fd : FuncData} (F : Fun K "is_signed" "is_signed" s_is_signed f fd) (B : Blt w K mg)  : FnOk P w K mg base CX0 1 f fd ["picture"] (sp_is_signed K mg) := by
  refine F.ok sc_is_signed (fun vs H Q E h => ?_) (fun cdv A outer s H vs Q E hr h => ?_)
  · first | (obtain ⟨_, rfl, _⟩ := h; rfl) | (obtain ⟨_, _, rfl, _⟩ := h; rfl) | (obtain ⟨_, _, _, rfl, _⟩ := h; rfl) | (obtain ⟨_, _, _, _, rfl, _⟩ := h; rfl) | (obtain ⟨_, _, _, _, _, rfl, _⟩ := h; rfl) | (obtain ⟨_, _, _, _, _, _, rfl, _⟩ := h; rfl) | (obtain ⟨_, _, _, _, _, _, _, rfl, _⟩ := h; rfl) | (obtain ⟨_, _, _, _, _, _, _, _, rfl, _⟩ := h; rfl) | (obtain ⟨rfl, _⟩ := h; rfl)
  · obtain ⟨p, pic, rfl, hp, k⟩ := h
    refine ⟨_, (pss_cons (ps_if (pt_cmpR op_eq (pe_ix ix_tup (pv 0) pe_int (fun _ _ => rfl)) (WP.pe_strL [116, 101, 120, 116] (by decide +kernel)) (nomark _)) (pss_one (ps_ret pe_bl)) pss_nil)
      (pss_cons (ps_if (pt_cmpR op_eq (pe_ix ix_tup (pv 0) pe_int (fun _ _ => rfl)) (WP.pe_strL [110, 117, 109, 98, 101, 114] (by decide +kernel)) (nomark _)) (pss_one (ps_ret (pe_ix ix_tup (pv 0) pe_int (fun _ _ => rfl)))) pss_nil)
      (pss_one (ps_ret (pe_cmpR op_ne (pe_ix ix_tup (pv 0) pe_int (fun _ _ => rfl)) (WP.pe_strL [] (by decide +kernel)) (nomark _)))))), ?_⟩
    cases pic with
    | num sg a b =>
      k_updF
      refine WP.ixT hp WP.at0 ?_
      k_updF
      refine WP.brF (by decide) ?_
      k_updF
      refine WP.ixT hp WP.at0 ?_
      k_updF
      refine WP.brT (by decide) ?_
      k_updF
      refine WP.ixT hp WP.at1 ?_
      exact k
    | ed m a b s =>
      k_updF
      refine WP.ixT hp WP.at0 ?_
      k_updF
      refine WP.brF (by decide) ?_
      k_updF
      refine WP.ixT hp WP.at0 ?_
      k_updF
      refine WP.brF (by decide) ?_
      k_updF
      refine WP.ixT hp WP.at4 ?_
      k_updF
      exact k
end
abbrev s__many_digits : Stmt := top 17
abbrev N__many_digits : List Str := ["picture", "whole", "fraction"]
theorem sc__many_digits : FnScope N__many_digits ["picture"] (defScope s__many_digits) := ⟨rfl, rfl, rfl, by decide +kernel, rfl, by decide +kernel, by decide +kernel⟩
def sp__many_digits (K : PySem.W.Frag) (mg : WP.MG) : Sp := fun vs H Q _ => ∃ (p : Addr) (pic : MP.Pic), vs = [.ref p] ∧ SqT K H p pic.vs ∧ WP.RetV (.int (pic.n : Int)) H Q
section
variable {P : Program} {w : World} {K : PySem.W.Frag} {mg : Str → Option Value} {base : Heap}
theorem ok__many_digits {f : Addr} {fd : FuncData} (F : Fun K "_many_digits" "_many_digits" s__many_digits f fd) (B : Blt w K mg) (c_digits_in : WP.Callee P w K mg base CX0 1 "digits_in" ["picture"] (sp_digits_in K mg)) : FnOk P w K mg base CX0 2 f fd ["picture"] (sp__many_digits K mg) := by
  refine F.ok sc__many_digits (fun vs H Q E h => ?_) (fun cdv A outer s H vs Q E hr h => ?_)
  · first | (obtain ⟨_, rfl, _⟩ := h; rfl) | (obtain ⟨_, _, rfl, _⟩ := h; rfl) | (obtain ⟨_, _, _, rfl, _⟩ := h; rfl) | (obtain ⟨_, _, _, _, rfl, _⟩ := h; rfl) | (obtain ⟨_, _, _, _, _, rfl, _⟩ := h; rfl) | (obtain ⟨_, _, _, _, _, _, rfl, _⟩ := h; rfl) | (obtain ⟨_, _, _, _, _, _, _, rfl, _⟩ := h; rfl) | (obtain ⟨_, _, _, _, _, _, _, _, rfl, _⟩ := h; rfl) | (obtain ⟨rfl, _⟩ := h; rfl)
  · obtain ⟨p, pic, rfl, hp, k⟩ := h
    refine ⟨_, (pss_cons (ps_asg (WP.pe_callC c_digits_in hr rfl pass0 (WP.pa_consN (pv 0) pa_nil)) (pg_tup (by rfl) (pgs_cons (pg_name (i := 1) sc__many_digits.nd rfl (Or.inl rfl)) (pgs_cons (pg_name (i := 2) sc__many_digits.nd rfl (Or.inl rfl)) pgs_nil))))
      (pss_one (ps_ret (pe_op op_add (pv 1) (pv 2))))), ?_⟩
    k_updF
    refine ⟨p, pic, rfl, hp, fun q H1 e1 hq => ?_⟩
    refine WP.unT (SqT.of hq) rfl ?_
    k_updF
    rw [← Int.natCast_add]
    exact k _ e1
end
abbrev s_suits : Stmt := top 16
abbrev N_suits : List Str := ["picture", "units"]
theorem sc_suits : FnScope N_suits ["picture", "units"] (defScope s_suits) := ⟨rfl, rfl, rfl, by decide +kernel, rfl, by decide +kernel, by decide +kernel⟩
def sp_suits (K : PySem.W.Frag) (mg : WP.MG) : Sp := fun vs H Q _ => ∃ (p : Addr) (pic : MP.Pic) (u : Int), vs = [.ref p, .int u] ∧ SqT K H p pic.vs ∧ pic.Ok ∧ WP.RetV (.bl (decide (MP.Suits pic u))) H Q
section
variable {P : Program} {w : World} {K : PySem.W.Frag} {mg : Str → Option Value} {base : Heap}
theorem ok_suits {f : Addr} {fd : FuncData} (F : Fun K "suits" "suits" s_suits f fd) (B : Blt w K mg) (c_fits : WP.Callee P w K mg base CX0 2 "fits" ["units", "digits"] (sp_fits K mg)) (c_is_signed : WP.Callee P w K mg base CX0 1 "is_signed" ["picture"] (sp_is_signed K mg)) (c__many_digits : WP.Callee P w K mg base CX0 2 "_many_digits" ["picture"] (sp__many_digits K mg)) : FnOk P w K mg base CX0 3 f fd ["picture", "units"] (sp_suits K mg) := by
  refine F.ok sc_suits (fun vs H Q E h => ?_) (fun cdv A outer s H vs Q E hr h => ?_)
  · first | (obtain ⟨_, rfl, _⟩ := h; rfl) | (obtain ⟨_, _, rfl, _⟩ := h; rfl) | (obtain ⟨_, _, _, rfl, _⟩ := h; rfl) | (obtain ⟨_, _, _, _, rfl, _⟩ := h; rfl) | (obtain ⟨_, _, _, _, _, rfl, _⟩ := h; rfl) | (obtain ⟨_, _, _, _, _, _, rfl, _⟩ := h; rfl) | (obtain ⟨_, _, _, _, _, _, _, rfl, _⟩ := h; rfl) | (obtain ⟨_, _, _, _, _, _, _, _, rfl, _⟩ := h; rfl) | (obtain ⟨rfl, _⟩ := h; rfl)
  · obtain ⟨p, pic, u, rfl, hp, ho, k⟩ := h
    refine ⟨_, (pss_cons (ps_if (pt_not (pt_val (WP.pe_callC c_fits hr rfl pass0 (WP.pa_consN (pv 1) (WP.pa_consN (WP.pe_callC c__many_digits hr rfl pass0 (WP.pa_consN (pv 0) pa_nil)) pa_nil))))) (pss_one (ps_ret pe_bl)) pss_nil)
      (pss_one (ps_ret (pe_or (pe_cmpR op_ge (pv 1) pe_int (nomark _)) (pe_one (WP.pe_callC c_is_signed hr rfl pass0 (WP.pa_consN (pv 0) pa_nil))))))), ?_⟩
    have hn := ho.n1
    k_updF
    refine ⟨p, pic, rfl, hp, fun H1 e1 => ?_⟩
    k_updF
    refine ⟨u, (pic.n : Int), rfl, by omega, ?_⟩
    rw [Int.toNat_natCast]
    k_updF
    by_cases c : u.natAbs < 10 ^ pic.n
    · refine WP.brF (by rw [decide_eq_true c]; rfl) ?_
      k_updF
      refine WP.br (fun d => ?_) (fun d => ?_)
      · rw [decide_eq_true (show MP.Suits pic u from ⟨c, .inl d⟩)] at k
        exact k _ e1
      · k_updF
        refine ⟨p, pic, rfl, WP.sqt e1 hp, ?_⟩
        cases hs : pic.sgd with
        | true =>
          rw [decide_eq_true (show MP.Suits pic u from ⟨c, .inr hs⟩)] at k
          exact k _ e1
        | false =>
          rw [decide_eq_false (show ¬ MP.Suits pic u from fun z => by
            rcases z.2 with z | z
            · exact d z
            · rw [hs] at z; cases z)] at k
          exact k _ e1
    · refine WP.brT (by rw [decide_eq_false c]; rfl) ?_
      k_updF
      rw [decide_eq_false (show ¬ MP.Suits pic u from fun z => c z.1)] at k
      exact k _ e1
end
abbrev s_aligned : Stmt := top 8
abbrev N_aligned : List Str := ["a", "scale", "units", "own"]
theorem sc_aligned : FnScope N_aligned ["a", "scale"] (defScope s_aligned) := ⟨rfl, rfl, rfl, by decide +kernel, rfl, by decide +kernel, by decide +kernel⟩
def sp_aligned (K : PySem.W.Frag) (mg : WP.MG) : Sp := fun vs H Q _ => ∃ (p : Addr) (u : Int) (own : Nat) (scale : Int), vs = [.ref p, .int scale] ∧ SqT K H p (WP.dv u own) ∧ (own : Int) ≤ scale ∧ scale - own ≤ 3000 ∧ WP.Bt u 900000 ∧ Q (.int (u * 10 ^ (scale - own).toNat)) H
section
variable {P : Program} {w : World} {K : PySem.W.Frag} {mg : Str → Option Value} {base : Heap}
theorem ok_aligned {f : Addr} {fd : FuncData} (F : Fun K "aligned" "aligned" s_aligned f fd) (B : Blt w K mg) (c_power : WP.Callee P w K mg base CX0 1 "power" ["exponent"] (sp_power K mg)) : FnOk P w K mg base CX0 2 f fd ["a", "scale"] (sp_aligned K mg) := by
  refine F.ok sc_aligned (fun vs H Q E h => ?_) (fun cdv A outer s H vs Q E hr h => ?_)
  · first | (obtain ⟨_, rfl, _⟩ := h; rfl) | (obtain ⟨_, _, rfl, _⟩ := h; rfl) | (obtain ⟨_, _, _, rfl, _⟩ := h; rfl) | (obtain ⟨_, _, _, _, rfl, _⟩ := h; rfl) | (obtain ⟨_, _, _, _, _, rfl, _⟩ := h; rfl) | (obtain ⟨_, _, _, _, _, _, rfl, _⟩ := h; rfl) | (obtain ⟨_, _, _, _, _, _, _, rfl, _⟩ := h; rfl) | (obtain ⟨_, _, _, _, _, _, _, _, rfl, _⟩ := h; rfl) | (obtain ⟨rfl, _⟩ := h; rfl)
  · obtain ⟨p, u, own, scale, rfl, hp, h1, h2, hu, k⟩ := h
    refine ⟨_, (pss_cons (ps_asg (pv 0) (pg_tup (by rfl) (pgs_cons (pg_name (i := 2) sc_aligned.nd rfl (Or.inl rfl)) (pgs_cons (pg_name (i := 3) sc_aligned.nd rfl (Or.inl rfl)) pgs_nil))))
      (pss_one (ps_ret (pe_op op_mulW (pv 2) (WP.pe_callC c_power hr rfl pass0 (WP.pa_consN (pe_op op_sub (pv 1) (pv 3)) pa_nil)))))), ?_⟩
    k_updF
    refine WP.unT hp rfl ?_
    k_updF
    refine ⟨_, rfl, h2, ?_⟩
    refine WP.iC (hu.w (WP.Bt.ten _)) ?_
    exact k
end
abbrev s__sign_marks : Stmt := top 14
abbrev N__sign_marks : List Str := ["sign"]
theorem sc__sign_marks : FnScope N__sign_marks ["sign"] (defScope s__sign_marks) := ⟨rfl, rfl, rfl, by decide +kernel, rfl, by decide +kernel, by decide +kernel⟩
def sp__sign_marks (K : PySem.W.Frag) (mg : WP.MG) : Sp := fun vs H Q _ => ∃ l : List Nat, vs = [.str (SX.S l)] ∧ l.length ≤ 100 ∧ Q (.str (SX.S (MR.sgm l))) H
section
variable {P : Program} {w : World} {K : PySem.W.Frag} {mg : Str → Option Value} {base : Heap}
theorem ok__sign_marks {f : Addr} {fd : FuncData} (F : Fun K "_sign_marks" "_sign_marks" s__sign_marks f fd) (B : Blt w K mg)  : FnOk P w K mg base CX0 1 f fd ["sign"] (sp__sign_marks K mg) := by
  refine WT.okS F sc__sign_marks (by decide +kernel) (by decide) (fun vs H Q E h => ?_) (fun cdv A outer s H vs Q E hr h => ?_)
  · first | (obtain ⟨_, rfl, _⟩ := h; rfl) | (obtain ⟨_, _, rfl, _⟩ := h; rfl) | (obtain ⟨_, _, _, rfl, _⟩ := h; rfl) | (obtain ⟨_, _, _, _, rfl, _⟩ := h; rfl) | (obtain ⟨_, _, _, _, _, rfl, _⟩ := h; rfl) | (obtain ⟨_, _, _, _, _, _, rfl, _⟩ := h; rfl) | (obtain ⟨_, _, _, _, _, _, _, rfl, _⟩ := h; rfl) | (obtain ⟨_, _, _, _, _, _, _, _, rfl, _⟩ := h; rfl) | (obtain ⟨rfl, _⟩ := h; rfl)
  · obtain ⟨l, rfl, hl, k⟩ := h
    refine ⟨_, (WT.ss_one (WT.s_ret (WT.e_replC (pv 0)))), ?_⟩
    refine WP.ret (WT.repl (WP.var rfl ⟨_, rfl, ?_, ?_⟩))
    · rw [MT.empty_len, SX.S_len]; omega
    rw [MT.repl_dot]
    exact k
end
abbrev s_size_of : Stmt := top 11
abbrev N_size_of : List Str := ["picture", "_", "signed", "whole", "fraction"]
theorem sc_size_of : FnScope N_size_of ["picture"] (defScope s_size_of) := ⟨rfl, rfl, rfl, by decide +kernel, rfl, by decide +kernel, by decide +kernel⟩
def sp_size_of (K : PySem.W.Frag) (mg : WP.MG) : Sp := fun vs H Q _ => ∃ (p : Addr) (r : MR.Res), vs = [.ref p] ∧ SqT K H p r.vs ∧ (∀ b w f s, r = .pic (.ed b w f s) → b.length ≤ 1000 ∧ s.length ≤ 100) ∧ Q (.int (MR.sizT r : Int)) H
section
variable {P : Program} {w : World} {K : PySem.W.Frag} {mg : Str → Option Value} {base : Heap}
theorem ok_size_of {f : Addr} {fd : FuncData} (F : Fun K "size_of" "size_of" s_size_of f fd) (B : Blt w K mg) (c__sign_marks : WP.Callee P w K mg base CX0 1 "_sign_marks" ["sign"] (sp__sign_marks K mg)) : FnOk P w K mg base CX0 2 f fd ["picture"] (sp_size_of K mg) := by
  refine F.ok sc_size_of (fun vs H Q E h => ?_) (fun cdv A outer s H vs Q E hr h => ?_)
  · first | (obtain ⟨_, rfl, _⟩ := h; rfl) | (obtain ⟨_, _, rfl, _⟩ := h; rfl) | (obtain ⟨_, _, _, rfl, _⟩ := h; rfl) | (obtain ⟨_, _, _, _, rfl, _⟩ := h; rfl) | (obtain ⟨_, _, _, _, _, rfl, _⟩ := h; rfl) | (obtain ⟨_, _, _, _, _, _, rfl, _⟩ := h; rfl) | (obtain ⟨_, _, _, _, _, _, _, rfl, _⟩ := h; rfl) | (obtain ⟨_, _, _, _, _, _, _, _, rfl, _⟩ := h; rfl) | (obtain ⟨rfl, _⟩ := h; rfl)
  · obtain ⟨p, r, rfl, hp, hb, k⟩ := h
    refine ⟨_, (pss_cons (ps_if (pt_cmpR op_eq (pe_ix ix_tup (pv 0) pe_int (fun _ _ => rfl)) (WP.pe_strL [116, 101, 120, 116] (by decide +kernel)) (nomark _)) (pss_one (ps_ret (pe_ix ix_tup (pv 0) pe_int (fun _ _ => rfl)))) pss_nil)
      (pss_cons (ps_if (pt_cmpR op_eq (pe_ix ix_tup (pv 0) pe_int (fun _ _ => rfl)) (WP.pe_strL [110, 117, 109, 98, 101, 114] (by decide +kernel)) (nomark _)) (pss_cons (ps_asg (pv 0) (pg_tup (by rfl) (pgs_cons (pg_name (i := 1) sc_size_of.nd rfl (Or.inl rfl)) (pgs_cons (pg_name (i := 2) sc_size_of.nd rfl (Or.inl rfl)) (pgs_cons (pg_name (i := 3) sc_size_of.nd rfl (Or.inl rfl)) (pgs_cons (pg_name (i := 4) sc_size_of.nd rfl (Or.inl rfl)) pgs_nil))))))
      (pss_one (ps_ret (pe_op op_add (pe_op op_add (pv 3) (pv 4)) (pe_ifExp (pt_val (pv 2)) pe_int pe_int))))) pss_nil)
      (pss_one (ps_ret (pe_op op_add (pe_callB WP.c_len (by rfl) B.b_len (by decide +kernel) (WP.pa_consN (pe_ix ix_tup (pv 0) pe_int (fun _ _ => rfl)) pa_nil)) (pe_callB WP.c_len (by rfl) B.b_len (by decide +kernel) (WP.pa_consN (WP.pe_callC c__sign_marks hr rfl pass0 (WP.pa_consN (pe_ix ix_tup (pv 0) pe_int (fun _ _ => rfl)) pa_nil)) pa_nil))))))), ?_⟩
    cases r with
    | txt n =>
      k_updF
      refine WP.ixT hp WP.at0 ?_
      k_updF
      refine WP.brT rfl ?_
      k_updF
      refine WP.ixT hp WP.at1 ?_
      exact k
    | pic q =>
      cases q with
      | num sg w f =>
        have hp : SqT K H p [V.str (SX.S [110, 117, 109, 98, 101, 114]), .bl sg, .int (w : Int), .int (f : Int)] := hp
        k_updF
        refine WP.ixT hp WP.at0 ?_
        k_updF
        refine WP.brF rfl ?_
        k_updF
        refine WP.ixT hp WP.at0 ?_
        k_updF
        refine WP.brT rfl ?_
        k_updF
        refine WP.unT hp rfl ?_
        k_updF
        cases sg with
        | true =>
          refine WP.brT rfl ?_
          k_updF
          have k : Q (.int ((w + f + 1 : Nat) : Int)) H := k
          rw [show ((w : Int) + (f : Int) + 1) = ((w + f + 1 : Nat) : Int) by omega]
          exact k
        | false =>
          refine WP.brF rfl ?_
          k_updF
          have k : Q (.int ((w + f + 0 : Nat) : Int)) H := k
          rw [show ((w : Int) + (f : Int) + 0) = ((w + f + 0 : Nat) : Int) by omega]
          exact k
      | ed b w f s =>
        obtain ⟨b1, s1⟩ := hb b w f s rfl
        have hs := MR.sgm_len s
        k_updF
        refine WP.ixT hp WP.at0 ?_
        k_updF
        refine WP.brF rfl ?_
        k_updF
        refine WP.ixT hp WP.at0 ?_
        k_updF
        refine WP.brF rfl ?_
        k_updF
        refine WP.ixT hp WP.at1 ?_
        k_updF
        refine WP.lenS' (by rw [sizeLine_eq]; omega) ?_
        k_updF
        refine WP.ixT hp WP.at4 ?_
        k_updF
        refine ⟨s, rfl, by omega, ?_⟩
        k_updF
        refine WP.lenS' (by rw [sizeLine_eq]; omega) ?_
        k_updF
        have k : Q (.int ((b.length + (MR.sgm s).length : Nat) : Int)) H := k
        rw [show ((b.length : Int) + ((MR.sgm s).length : Int)) = ((b.length + (MR.sgm s).length : Nat) : Int) by omega]
        exact k
end
abbrev s__value_suits : Stmt := top 27
abbrev N__value_suits : List Str := ["picture", "value", "_", "fraction"]
theorem sc__value_suits : FnScope N__value_suits ["picture", "value"] (defScope s__value_suits) := ⟨rfl, rfl, rfl, by decide +kernel, rfl, by decide +kernel, by decide +kernel⟩
theorem Suits_n {q : MP.Pic} {u : Int} {f s : Nat} : MP.Suits q (u * 10 ^ (f - s)) ↔ MP.Suits q (u * 10 ^ ((f : Int) - (s : Int)).toNat) := by rw [show ((f : Int) - (s : Int)).toNat = f - s by omega]
/-- an entry's parts are in their bounds -/
structure ROk (r : ML.Row) : Prop where
  nl : r.nm.length ≤ 100
  ne : r.nm ≠ []
  nc : ∀ c ∈ r.nm, c < 128
  pc : ∀ x, r.pc = some x → (∀ q, x = .pic q → q.Ok) ∧ MR.sizT x ≤ 200
  tm : r.tm ≤ 50
  lv : r.lv ≤ 60
  txt : ∀ t, r.vl = .txt t → t.length ≤ 200 ∧ ∀ c ∈ t, c < 128
  dec : ∀ u s, r.vl = .dec u s → u.natAbs ≤ 10 ^ 19 ∧ s ≤ 100
theorem sizB {x : MR.Res} (h : (∀ q, x = .pic q → q.Ok) ∧ MR.sizT x ≤ 200) : ∀ b w f s, x = .pic (.ed b w f s) → b.length ≤ 1000 ∧ s.length ≤ 100 := fun b w f s e => by
  obtain ⟨h1, h2⟩ := h
  subst e
  have h2 : b.length + (MR.sgm s).length ≤ 200 := h2
  have hs : s ∈ MP.signs := (h1 _ rfl).2.2.2
  exact ⟨by omega, (show ∀ s ∈ MP.signs, s.length ≤ 100 by decide) s hs⟩
theorem bt_val {u : Int} {k : Nat} (h : u.natAbs ≤ 10 ^ 19) : WP.Bt u 900000 := Nat.lt_of_le_of_lt h (Nat.lt_of_lt_of_le (show 10 ^ 19 < 2 ^ 64 by decide) (Nat.pow_le_pow_right (by decide) (by decide)))
def sp__value_suits (K : PySem.W.Frag) (mg : WP.MG) : Sp := fun vs H Q _ => ∃ (p : Addr) (vv : V) (x : MR.Res) (vl : ML.Val), vs = [.ref p, vv] ∧ SqT K H p x.vs ∧ ML.ValV K H vv vl ∧ vl ≠ .non ∧ ((∀ q, x = .pic q → q.Ok) ∧ MR.sizT x ≤ 200) ∧
  (∀ t, vl = .txt t → t.length ≤ 200 ∧ ∀ c ∈ t, c < 128) ∧ (∀ u s, vl = .dec u s → u.natAbs ≤ 10 ^ 19 ∧ s ≤ 100) ∧ ∀ H', Same H H' → Q (.bl (ML.vsuits x vl)) H'
section
variable {P : Program} {w : World} {K : PySem.W.Frag} {mg : Str → Option Value} {base : Heap}
theorem ok__value_suits {f : Addr} {fd : FuncData} (F : Fun K "_value_suits" "_value_suits" s__value_suits f fd) (B : Blt w K mg) (c_digits_in : WP.Callee P w K mg base CX0 1 "digits_in" ["picture"] (sp_digits_in K mg)) (c_suits : WP.Callee P w K mg base CX0 3 "suits" ["picture", "units"] (sp_suits K mg)) (c_aligned : WP.Callee P w K mg base CX0 2 "aligned" ["a", "scale"] (sp_aligned K mg)) (c_size_of : WP.Callee P w K mg base CX0 2 "size_of" ["picture"] (sp_size_of K mg)) : FnOk P w K mg base CX0 4 f fd ["picture", "value"] (sp__value_suits K mg) := by
  refine F.ok sc__value_suits (fun vs H Q E h => ?_) (fun cdv A outer s H vs Q E hr h => ?_)
  · first | (obtain ⟨_, rfl, _⟩ := h; rfl) | (obtain ⟨_, _, rfl, _⟩ := h; rfl) | (obtain ⟨_, _, _, rfl, _⟩ := h; rfl) | (obtain ⟨_, _, _, _, rfl, _⟩ := h; rfl) | (obtain ⟨_, _, _, _, _, rfl, _⟩ := h; rfl) | (obtain ⟨_, _, _, _, _, _, rfl, _⟩ := h; rfl) | (obtain ⟨_, _, _, _, _, _, _, rfl, _⟩ := h; rfl) | (obtain ⟨_, _, _, _, _, _, _, _, rfl, _⟩ := h; rfl) | (obtain ⟨rfl, _⟩ := h; rfl)
  · obtain ⟨p, vv, x, vl, rfl, hp, hv, hn, hx, hct, hcd, k⟩ := h
    refine ⟨_, (pss_cons (ps_if (pt_cmpR op_eq (pe_ix ix_tup (pv 0) pe_int (fun _ _ => rfl)) (WP.pe_strL [116, 101, 120, 116] (by decide +kernel)) (nomark _)) (pss_one (ps_ret (pe_and (pe_callB call_isi (by rfl) B.b_isinstance (by decide +kernel) (pa_cons (pv 1) (pa_cons (pe_bltn (v := .ty "str") rfl B.b_str (by decide +kernel) rfl) pa_nil))) (pe_one (pe_cmpR op_le (pe_callB WP.c_len (by rfl) B.b_len (by decide +kernel) (WP.pa_consN (pv 1) pa_nil)) (WP.pe_callC c_size_of hr rfl pass0 (WP.pa_consN (pv 0) pa_nil)) (nomark _)))))) pss_nil)
      (pss_cons (ps_if (pt_val (pe_callB call_isi (by rfl) B.b_isinstance (by decide +kernel) (pa_cons (pv 1) (pa_cons (pe_bltn (v := .ty "str") rfl B.b_str (by decide +kernel) rfl) pa_nil)))) (pss_one (ps_ret pe_bl)) pss_nil)
      (pss_cons (ps_asg (WP.pe_callC c_digits_in hr rfl pass0 (WP.pa_consN (pv 0) pa_nil)) (pg_tup (by rfl) (pgs_cons (pg_name (i := 2) sc__value_suits.nd rfl (Or.inl rfl)) (pgs_cons (pg_name (i := 3) sc__value_suits.nd rfl (Or.inl rfl)) pgs_nil))))
      (pss_one (ps_ret (pe_and (pe_cmpR op_le (pe_ix ix_tup (pv 1) pe_int (fun _ _ => rfl)) (pv 3) (nomark _)) (pe_one (WP.pe_callC c_suits hr rfl pass0 (WP.pa_consN (pv 0) (WP.pa_consN (WP.pe_callC c_aligned hr rfl pass0 (WP.pa_consN (pv 1) (WP.pa_consN (pv 3) pa_nil))) pa_nil)))))))))), ?_⟩
    k_updF
    cases x with
    | txt n =>
      refine WP.ixT hp WP.at0 ?_
      k_updF
      refine WP.brT (decide_eq_true rfl) ?_
      k_updF
      cases vl with
      | non => exact absurd rfl hn
      | txt t =>
        cases hv
        refine WP.isY (.base (.str _)) ?_
        k_updF
        refine WP.brT rfl ?_
        k_updF
        refine WP.lenS' (by rw [sizeLine_eq]; have := (hct t rfl).1; omega) ?_
        k_updF
        refine ⟨p, .txt n, rfl, hp, sizB hx, ?_⟩
        k_updF
        have z := k H (Same.refl _)
        rw [show decide ((t.length : Int) ≤ (MR.sizT (.txt n) : Int)) = ML.vsuits (.txt n) (.txt t) from decide_eq_decide.mpr (by show _ ≤ ((n : Nat) : Int) ↔ _; omega)]
        exact z
      | dec u s =>
        obtain ⟨b, rfl, hb⟩ := hv
        refine WP.isN (WP.tyT hb) ?_
        k_updF
        exact WP.brF rfl (k H (Same.refl _))
    | pic q =>
      have h0 : ∃ z, atI q.vs (0 : Int) = some (.str (SX.S z)) ∧ z ≠ [116, 101, 120, 116] := by
        cases q with
        | num sg a b => exact ⟨_, WP.at0, by decide⟩
        | ed m a b s => exact ⟨_, WP.at0, by decide⟩
      obtain ⟨z, hz, nz⟩ := h0
      have hok := hx.1 q rfl
      refine WP.ixT hp hz ?_
      k_updF
      refine WP.brF (decide_eq_false nz) ?_
      k_updF
      cases vl with
      | non => exact absurd rfl hn
      | txt t =>
        cases hv
        refine WP.isY (.base (.str _)) ?_
        k_updF
        refine WP.brT rfl ?_
        k_updF
        exact k H (Same.refl _)
      | dec u s =>
        obtain ⟨b, rfl, hb⟩ := hv
        obtain ⟨cu, cs⟩ := hcd u s rfl
        refine WP.isN (WP.tyT hb) ?_
        k_updF
        refine WP.brF rfl ?_
        k_updF
        refine ⟨p, q, rfl, hp, fun t H1 e1 g1 => ?_⟩
        k_updF
        refine WP.unT (SqT.of g1) rfl ?_
        k_updF
        have hb1 := WP.sqt e1 hb
        refine WP.ixT hb1 WP.at1 ?_
        k_updF
        by_cases c : (s : Int) ≤ (q.fr : Int)
        · rw [decide_eq_true c]
          refine WP.brT rfl ?_
          k_updF
          have fr18 : q.fr ≤ 18 := by have := hok.n1.2; unfold MP.Pic.n at this; omega
          refine ⟨b, u, s, (q.fr : Int), rfl, hb1, c, by omega, bt_val (k := 0) cu, ?_⟩
          refine ⟨p, q, _, rfl, WP.sqt e1 hp, hok, fun H2 e2 => ?_⟩
          have z := k H2 (e1.trans e2)
          rw [show ML.vsuits (.pic q) (.dec u s) = decide (MP.Suits q (u * 10 ^ ((q.fr : Int) - (s : Int)).toNat)) from by
            show (decide (s ≤ q.fr) && decide (MP.Suits q (u * 10 ^ (q.fr - s)))) = _
            rw [decide_eq_true (show s ≤ q.fr by omega), Bool.true_and]
            exact decide_eq_decide.mpr Suits_n] at z
          exact z
        · rw [decide_eq_false c]
          refine WP.brF rfl ?_
          have z := k H1 e1
          rw [show ML.vsuits (.pic q) (.dec u s) = false from by
            show (decide (s ≤ q.fr) && _) = _
            rw [decide_eq_false (show ¬ s ≤ q.fr by omega), Bool.false_and]] at z
          exact z
end
abbrev s__fault_of : Stmt := top 24
abbrev N__fault_of : List Str := ["entry", "path", "outer", "items", "next_level", "level", "name", "picture", "times", "value", "has_children"]
theorem sc__fault_of : FnScope N__fault_of ["entry", "path", "outer", "items", "next_level"] (defScope s__fault_of) := ⟨rfl, rfl, rfl, by decide +kernel, rfl, by decide +kernel, by decide +kernel⟩
theorem MSt_gotS {H : Hp} {d : Addr} {kvs : List (Key × V)} {s : Str} {v : V} (hd : H d = some (.dK kvs)) (e : valV kvs (Sum.inr s) = some v) : DGet H d (.str s) (some v) := e ▸ DGet.k (k := Sum.inr s) hd
theorem getS {H : Hp} {d : Addr} {kvs : List (Key × V)} {s : Str} (hd : H d = some (.dK kvs)) : DGet H d (.str s) (valV kvs (Sum.inr s)) := DGet.k (k := Sum.inr s) hd
def sp__fault_of (K : PySem.W.Frag) (mg : WP.MG) : Sp := fun vs H Q _ => ∃ (v : V) (P O I : Addr) (r : ML.Row) (xs ys : List V) (p : List ML.Row) (kvs : List (Key × V)) (names : List ML.Tx) (nl : Nat), vs = [v, .ref P, .ref O, .ref I, .int (nl : Int)] ∧
  ML.RowAt K H v r ∧ ROk r ∧ SqL K H P xs ∧ ML.RwA K H xs p ∧ p.length ≤ 1000 ∧ SqL K H O ys ∧ ML.RwA K H ys (ML.below r.lv p) ∧ H I = some (.dK kvs) ∧ (valV kvs (Sum.inr (SX.S r.nm))).isSome = decide (r.nm ∈ names) ∧
  ∀ H', Same H H' → Q (.str (SX.S (ML.fault names p r nl))) H'
section
variable {P : Program} {w : World} {K : PySem.W.Frag} {mg : Str → Option Value} {base : Heap}
theorem ok__fault_of {f : Addr} {fd : FuncData} (F : Fun K "_fault_of" "_fault_of" s__fault_of f fd) (B : Blt w K mg) (c__has_right_level : WP.Callee P w K mg base CX0 1 "_has_right_level" ["level", "path"] (sp__has_right_level K mg)) (c__many_dimensions : WP.Callee P w K mg base CX0 1 "_many_dimensions" ["path"] (sp__many_dimensions K mg)) (c__value_suits : WP.Callee P w K mg base CX0 4 "_value_suits" ["picture", "value"] (sp__value_suits K mg)) : FnOk P w K mg base CX0 5 f fd ["entry", "path", "outer", "items", "next_level"] (sp__fault_of K mg) := by
  refine F.ok sc__fault_of (fun vs H Q E h => ?_) (fun cdv A outer s H vs Q E hr h => ?_)
  · obtain ⟨_, _, _, _, _, _, _, _, _, _, _, rfl, _⟩ := h; rfl
  · obtain ⟨v, P, O, I, r, xs, ys, p, kvs, names, nl, rfl, ⟨a, pz, vz, rfl, ha, hpv, hvv⟩, hok, hP, hp, hl, hO, ho, hI, hn, k⟩ := h
    refine ⟨_, (pss_cons (ps_asg (pv 0) (pg_tup (by rfl) (pgs_cons (pg_name (i := 5) sc__fault_of.nd rfl (Or.inl rfl)) (pgs_cons (pg_name (i := 6) sc__fault_of.nd rfl (Or.inl rfl)) (pgs_cons (pg_name (i := 7) sc__fault_of.nd rfl (Or.inl rfl)) (pgs_cons (pg_name (i := 8) sc__fault_of.nd rfl (Or.inl rfl)) (pgs_cons (pg_name (i := 9) sc__fault_of.nd rfl (Or.inl rfl)) pgs_nil)))))))
      (pss_cons (ps_if (pt_not (pt_val (WP.pe_callC c__has_right_level hr rfl pass0 (WP.pa_consN (pv 5) (WP.pa_consN (pv 1) pa_nil))))) (pss_one (ps_ret (WP.pe_strL [108, 101, 118, 101, 108] (by decide +kernel)))) pss_nil)
      (pss_cons (ps_if (pt_cmp (pc_din (hu_of hr) (pv 6) (pv 3))) (pss_one (ps_ret (WP.pe_strL [110, 97, 109, 101] (by decide +kernel)))) pss_nil)
      (Evl.pss_cut (ps_if (PW.pt (pw_and (pt_cmpR op_gt (pv 8) pe_int (nomark _)) (pw_and1 (PW.pt (pw_or (pt_not (pt_truth (pv 2) (by intro _; rfl))) (pw_or1 (pt_cmpR op_eq (WP.pe_callC c__many_dimensions hr rfl pass0 (WP.pa_consN (pv 2) pa_nil)) (WP.pe_const (by rfl) B.c_MOST_DIMENSIONS) (nomark _)))))))) (pss_one (ps_ret (WP.pe_strL [111, 99, 99, 117, 114, 115] (by decide +kernel)))) pss_nil)
      (Evl.pss_cut (ps_if (PW.pt (pw_and (pt_cmpR op_notN (pv 9) pe_non (nomark _)) (pw_and1 (PW.pt (pw_or (pt_cmpR op_isN (pv 7) pe_non (nomark _)) (pw_or1 (pt_not (pt_val (WP.pe_callC c__value_suits hr rfl pass0 (WP.pa_consN (pv 7) (WP.pa_consN (pv 9) pa_nil))))))))))) (pss_one (ps_ret (WP.pe_strL [118, 97, 108, 117, 101] (by decide +kernel)))) pss_nil)
      (pss_cons (ps_set (i := 10) sc__fault_of.nd rfl (Or.inl rfl) (pe_cmpR op_gt (pv 4) (pv 5) (nomark _)))
      (pss_cons (ps_if (pt_cmpR op_eq (pv 10) (pe_cmpR op_notN (pv 7) pe_non (nomark _)) (nomark _)) (pss_one (ps_ret (WP.pe_strL [103, 114, 111, 117, 112] (by decide +kernel)))) pss_nil)
      (pss_one (ps_ret (WP.pe_strL [] (by decide +kernel))))))))))), ?_⟩
    k_updF
    refine WP.unT ha rfl ?_
    k_updF
    refine ⟨P, r.lv, xs, p, rfl, hP, hp, hl, fun H1 e1 => ?_⟩
    k_updF
    have hol : (ML.below r.lv p).length ≤ 1000 := Nat.le_trans (List.length_filter_le _ _) hl
    have kp1 : ∀ b us, SqT K H b us → SqT K H1 b us := fun b us h => WP.sqt e1 h
    cases hr : ML.right r.lv p with
    | false =>
      refine WP.brT rfl ?_
      k_updF
      have z := k H1 e1
      unfold ML.fault at z
      rw [if_pos hr] at z
      exact z
    | true =>
    refine WP.brF rfl ?_
    k_updF
    refine ⟨I, _, rfl, getS (e1 _ _ hI), ?_⟩
    rw [hn]
    k_updF
    refine WP.br (fun c1 => ?_) (fun c1 => ?_)
    · k_updF
      have z := k H1 e1
      unfold ML.fault at z
      rw [if_neg (by rw [hr]; decide), if_pos c1] at z
      exact z
    have fh1 : ∀ {A : Prop}, A → A := fun h => h
    have fz : ML.fault names p r nl = if 0 < r.tm ∧ (ML.below r.lv p = [] ∨ ML.dims (ML.below r.lv p) = 2) then ML.OCCURS else if ML.badVal r.pc r.vl = true then ML.VALUE else if decide (r.lv < nl) = r.pc.isSome then ML.GROUP else [] := by
      unfold ML.fault
      rw [if_neg (by rw [hr]; decide), if_neg c1]
    rw [fz] at k
    clear fz fh1
    k_updF
    refine WP.cut (fun σ' H' => Same H H' ∧ σ' = [some (.ref a), some (.ref P), some (.ref O), some (.ref I), some (.int (nl : Int)), some (.int (r.lv : Int)), some (.str (SX.S r.nm)), some pz, some (.int (r.tm : Int)), some vz, none] ∧ ¬ (0 < r.tm ∧ (ML.below r.lv p = [] ∨ ML.dims (ML.below r.lv p) = 2))) ?_ ?_
    · k_updF
      by_cases ct : (r.tm : Int) > 0
      · rw [decide_eq_true ct]
        refine WP.brT rfl ?_
        k_updF
        refine ⟨_, WP.trL (WP.sql e1 hO), ?_⟩
        cases ey : ys with
        | nil =>
          have eb : ML.below r.lv p = [] := List.length_eq_zero_iff.mp (by rw [← ho.1, ey]; rfl)
          refine WP.brT rfl ?_
          refine WP.brT rfl ?_
          k_updF
          have z := k H1 e1
          rw [if_pos ⟨by omega, .inl eb⟩] at z
          exact z
        | cons y t =>
          have nb : ML.below r.lv p ≠ [] := fun z => by have := ho.1; rw [z, ey] at this; cases this
          refine WP.brF rfl ?_
          k_updF
          refine ⟨O, ys, _, rfl, WP.sql e1 hO, ho.keep kp1, hol, fun H2 e2 => ?_⟩
          k_updF
          refine WP.br (fun c2 => ?_) (fun c2 => ?_)
          · k_updF
            have z := k H2 (e1.trans e2)
            rw [if_pos ⟨by omega, .inr (by omega)⟩] at z
            exact z
          · k_updF
            exact ⟨e1.trans e2, rfl, fun z => z.2.elim nb (by omega)⟩
      · rw [decide_eq_false ct]
        refine WP.brF rfl ?_
        refine WP.brF rfl ?_
        k_updF
        exact ⟨e1, rfl, fun z => by omega⟩
    clear e1 kp1
    rintro σ' H1 ⟨e1, rfl, c2⟩
    rw [if_neg c2] at k
    have kp1 : ∀ b us, SqT K H b us → SqT K H1 b us := fun b us h => WP.sqt e1 h
    replace hpv := hpv.keep kp1
    replace hvv := hvv.keep kp1
    have pzn : decide (pz = V.non) = !r.pc.isSome := by
      cases h : r.pc with
      | none => rw [h] at hpv; exact decide_eq_true (show pz = .non from hpv)
      | some x => rw [h] at hpv; obtain ⟨q, rfl, _⟩ := hpv; exact decide_eq_false fun z => nomatch z
    have vzn : decide (vz = V.non) = decide (r.vl = .non) := by
      cases h : r.vl with
      | non =>
        rw [h] at hvv
        have hvv : vz = .non := hvv
        rw [decide_eq_true hvv, decide_eq_true rfl]
      | txt t => rw [h] at hvv; cases hvv; rfl
      | dec u s => rw [h] at hvv; obtain ⟨q, rfl, _⟩ := hvv; rfl
    k_updF
    refine WP.cut (fun σ' H' => Same H H' ∧ σ' = [some (.ref a), some (.ref P), some (.ref O), some (.ref I), some (.int (nl : Int)), some (.int (r.lv : Int)), some (.str (SX.S r.nm)), some pz, some (.int (r.tm : Int)), some vz, none] ∧ ML.badVal r.pc r.vl = false) ?_ ?_
    · k_updF
      refine ⟨rfl, ?_⟩
      k_updF
      rw [vzn]
      by_cases hv : r.vl = .non
      · rw [decide_eq_true hv]
        refine WP.brF rfl ?_
        refine WP.brF rfl ?_
        k_updF
        exact ⟨e1, rfl, by rw [hv]; cases r.pc <;> rfl⟩
      · rw [decide_eq_false hv]
        refine WP.brT rfl ?_
        k_updF
        refine ⟨rfl, ?_⟩
        k_updF
        rw [pzn]
        cases hpc : r.pc with
        | none =>
          refine WP.brT rfl ?_
          refine WP.brT rfl ?_
          k_updF
          have z := k H1 e1
          rw [if_pos (by rw [hpc]; cases h : r.vl <;> first | exact absurd h hv | rfl)] at z
          exact z
        | some x =>
          refine WP.brF rfl ?_
          rw [hpc] at hpv
          obtain ⟨q, rfl, hq⟩ := hpv
          k_updF
          refine ⟨q, vz, x, r.vl, rfl, hq, hvv, hv, hok.pc x hpc, hok.txt, hok.dec, fun H2 e2 => ?_⟩
          have eb : ML.badVal r.pc r.vl = !ML.vsuits x r.vl := by rw [hpc]; cases h : r.vl <;> first | exact absurd h hv | rfl
          k_updF
          cases hs : ML.vsuits x r.vl with
          | false =>
            refine WP.brT rfl ?_
            k_updF
            have z := k H2 (e1.trans e2)
            rw [if_pos (by rw [eb, hs]; rfl)] at z
            exact z
          | true =>
            refine WP.brF rfl ?_
            k_updF
            exact ⟨e1.trans e2, rfl, by rw [← hpc, eb, hs]; rfl⟩
    clear e1 kp1 hpv hvv vzn
    rintro σ' H1 ⟨e1, rfl, c3⟩
    rw [if_neg (by rw [c3]; decide)] at k
    k_updF
    refine ⟨rfl, ?_⟩
    rw [pzn]
    k_updF
    have z := k H1 e1
    have e5 : decide ((r.lv : Int) < (nl : Int)) = decide (r.lv < nl) := decide_eq_decide.mpr (by omega)
    rw [e5]
    by_cases c : decide (r.lv < nl) = r.pc.isSome
    · rw [if_pos c] at z
      refine WP.brT (by rw [c]; cases r.pc <;> rfl) ?_
      k_updF
      exact z
    · rw [if_neg c] at z
      refine WP.brF (by cases h1 : decide (r.lv < nl) <;> cases h2 : r.pc.isSome <;> first | rfl | (rw [h1, h2] at c; exact absurd rfl c)) ?_
      k_updF
      exact z
end
abbrev s_Item___init__ : Stmt := inClass (top 20) 0
abbrev N_Item___init__ : List Str := ["self", "entry", "parent", "_", "name", "picture", "times", "value"]
theorem sc_Item___init__ : FnScope N_Item___init__ ["self", "entry", "parent"] (defScope s_Item___init__) := ⟨rfl, rfl, rfl, by decide +kernel, rfl, by decide +kernel, by decide +kernel⟩
def sp_Item___init__ (K : PySem.W.Frag) (mg : WP.MG) : Sp := fun vs H Q _ => ∃ (x dx : Addr) (v : V) (r : ML.Row) (par : ML.Tx), vs = [.ref x, v, .str (SX.S par)] ∧ H x = some (.ins (WP.ca mg "Item") dx []) ∧ ML.RowAt K H v r ∧ ROk r ∧
  ∀ (c : Addr) (pz vz : V) (H' : Hp), H c = none → H' x = some (.ins (WP.ca mg "Item") dx (ML.flds r pz vz par 0 (ML.isz r.pc) c)) → H' c = some (.lst []) → ML.PicV K H pz r.pc → ML.ValV K H vz r.vl → (∀ b o, b ≠ x → H b = some o → H' b = some o) → Q .non H'
section
variable {P : Program} {w : World} {K : PySem.W.Frag} {mg : Str → Option Value} {base : Heap}
theorem ok_Item___init__ {f : Addr} {fd : FuncData} (F : Fun K "__init__" "Item.__init__" s_Item___init__ f fd) (B : Blt w K mg) (c_size_of : WP.Callee P w K mg base CX0 2 "size_of" ["picture"] (sp_size_of K mg)) : FnOk P w K mg base CX0 3 f fd ["self", "entry", "parent"] (sp_Item___init__ K mg) := by
  refine F.ok sc_Item___init__ (fun vs H Q E h => ?_) (fun cdv A outer s H vs Q E hr h => ?_)
  · first | (obtain ⟨_, rfl, _⟩ := h; rfl) | (obtain ⟨_, _, rfl, _⟩ := h; rfl) | (obtain ⟨_, _, _, rfl, _⟩ := h; rfl) | (obtain ⟨_, _, _, _, rfl, _⟩ := h; rfl) | (obtain ⟨_, _, _, _, _, rfl, _⟩ := h; rfl) | (obtain ⟨_, _, _, _, _, _, rfl, _⟩ := h; rfl) | (obtain ⟨_, _, _, _, _, _, _, rfl, _⟩ := h; rfl) | (obtain ⟨_, _, _, _, _, _, _, _, rfl, _⟩ := h; rfl) | (obtain ⟨rfl, _⟩ := h; rfl)
  · obtain ⟨x, dx, v, r, par, rfl, hx, ⟨a, pz, vz, rfl, ha, hpv, hvv⟩, hok, k⟩ := h
    refine ⟨_, (pss_cons (ps_asg (pv 1) (pg_tup (by rfl) (pgs_cons (pg_name (i := 3) sc_Item___init__.nd rfl (Or.inl rfl)) (pgs_cons (pg_name (i := 4) sc_Item___init__.nd rfl (Or.inl rfl)) (pgs_cons (pg_name (i := 5) sc_Item___init__.nd rfl (Or.inl rfl)) (pgs_cons (pg_name (i := 6) sc_Item___init__.nd rfl (Or.inl rfl)) (pgs_cons (pg_name (i := 7) sc_Item___init__.nd rfl (Or.inl rfl)) pgs_nil)))))))
      (pss_cons (ps_fld (pv 0) (pv 4) rfl)
      (pss_cons (ps_fld (pv 0) (pv 5) rfl)
      (pss_cons (ps_fld (pv 0) (pv 6) rfl)
      (pss_cons (ps_fld (pv 0) (pv 7) rfl)
      (pss_cons (ps_fld (pv 0) (pv 2) rfl)
      (pss_cons (ps_fld (pv 0) pe_int rfl)
      (pss_cons (ps_fld (pv 0) (pe_ifExp (pt_cmpR op_isN (pv 5) pe_non (nomark _)) pe_int (WP.pe_callC c_size_of hr rfl pass0 (WP.pa_consN (pv 5) pa_nil))) rfl)
      (pss_one (ps_fld (pv 0) (pe_lst pa_nil) rfl)))))))))), ?_⟩
    k_updF
    refine WP.unT ha rfl ?_
    k_updF
    refine WP.sfldA B.k_Item hx (by decide) ?_
    k_updF
    refine WP.sfldA B.k_Item upd_same (by show 1 < 1000; decide) ?_
    k_updF
    refine WP.sfldA B.k_Item upd_same (by show 2 < 1000; decide) ?_
    k_updF
    refine WP.sfldA B.k_Item upd_same (by show 3 < 1000; decide) ?_
    k_updF
    refine WP.sfldA B.k_Item upd_same (by show 4 < 1000; decide) ?_
    k_updF
    refine WP.sfldA B.k_Item upd_same (by show 5 < 1000; decide) ?_
    generalize hG : upd _ x _ = G
    have gx : G x = some (.ins (WP.ca mg "Item") dx [("name", .str (SX.S r.nm)), ("picture", pz), ("times", .int (r.tm : Int)), ("value", vz), ("parent", .str (SX.S par)), ("offset", .int 0)]) := by rw [← hG]; exact upd_same
    have off : ∀ b o, b ≠ x → H b = some o → G b = some o := fun b o n e => by rw [← hG]; simp only [upd_ne n]; exact e
    clear hG
    k_updF
    refine ⟨rfl, ?_⟩
    k_updF
    cases hpc : r.pc with
    | none =>
      rw [hpc] at hpv
      have hpv : pz = .non := hpv
      rw [decide_eq_true hpv]
      refine WP.brT rfl ?_
      k_updF
      refine WP.sfldA B.k_Item gx (by show 6 < 1000; decide) ?_
      k_updF
      refine ⟨Nat.zero_le _, fun c hc => ?_⟩
      have ncx : x ≠ c := ne_of_none upd_same hc
      k_updF
      refine WP.sfldA B.k_Item (by rw [upd_ne ncx]; exact upd_same) (by show 7 < 1000; decide) ?_
      have hcG : G c = none := by rw [upd_ne ncx.symm] at hc; exact hc
      have hcH : H c = none := by
        cases e : H c with
        | none => rfl
        | some o => have := off c o ncx.symm e; rw [hcG] at this; cases this
      refine k c pz vz _ hcH ?_ ?_ (by rw [hpc]; exact hpv) hvv (fun b o n e => ?_)
      · rw [upd_same, hpc]; rfl
      · rw [upd_ne ncx.symm, upd_same]
      · rw [upd_ne n, upd_ne (fun z => by rw [z, hcH] at e; cases e), upd_ne n]; exact off b o n e
    | some y =>
      rw [hpc] at hpv
      obtain ⟨q, rfl, hq⟩ := hpv
      refine WP.brF rfl ?_
      k_updF
      have hqG : SqT K G q y.vs := by
        rcases hq with (h | ⟨o, h⟩) | h
        · exact .inl (.inl (off q _ (fun z => by rw [z, hx] at h; cases h) h))
        · exact .inl (.inr ⟨o, off q _ (fun z => by rw [z, hx] at h; cases h) h⟩)
        · exact .inr h
      refine ⟨q, y, rfl, hqG, sizB (hok.pc y hpc), ?_⟩
      k_updF
      refine WP.sfldA B.k_Item gx (by show 6 < 1000; decide) ?_
      k_updF
      refine ⟨Nat.zero_le _, fun c hc => ?_⟩
      have ncx : x ≠ c := ne_of_none upd_same hc
      k_updF
      refine WP.sfldA B.k_Item (by rw [upd_ne ncx]; exact upd_same) (by show 7 < 1000; decide) ?_
      have hcG : G c = none := by rw [upd_ne ncx.symm] at hc; exact hc
      have hcH : H c = none := by
        cases e : H c with
        | none => rfl
        | some o => have := off c o ncx.symm e; rw [hcG] at this; cases this
      refine k c (.ref q) vz _ hcH ?_ ?_ (by rw [hpc]; exact ⟨q, rfl, hq⟩) hvv (fun b o n e => ?_)
      · rw [upd_same, hpc]; rfl
      · rw [upd_ne ncx.symm, upd_same]
      · rw [upd_ne n, upd_ne (fun z => by rw [z, hcH] at e; cases e), upd_ne n]; exact off b o n e
end
abbrev s__next_level : Stmt := top 23
abbrev N__next_level : List Str := ["entries", "at"]
theorem sc__next_level : FnScope N__next_level ["entries", "at"] (defScope s__next_level) := ⟨rfl, rfl, rfl, by decide +kernel, rfl, by decide +kernel, by decide +kernel⟩
def sp__next_level (K : PySem.W.Frag) (mg : WP.MG) : Sp := fun vs H Q _ => ∃ (a : Addr) (i : Nat) (xs : List V) (p : List ML.Row), vs = [.ref a, .int (i : Int)] ∧ SqL K H a xs ∧ ML.RwA K H xs p ∧ Q (.int ((match p[i + 1]? with | some r => r.lv | none => 1 : Nat) : Int)) H
section
variable {P : Program} {w : World} {K : PySem.W.Frag} {mg : Str → Option Value} {base : Heap}
theorem ok__next_level {f : Addr} {fd : FuncData} (F : Fun K "_next_level" "_next_level" s__next_level f fd) (B : Blt w K mg)  : FnOk P w K mg base CX0 1 f fd ["entries", "at"] (sp__next_level K mg) := by
  refine F.ok sc__next_level (fun vs H Q E h => ?_) (fun cdv A outer s H vs Q E hr h => ?_)
  · first | (obtain ⟨_, rfl, _⟩ := h; rfl) | (obtain ⟨_, _, rfl, _⟩ := h; rfl) | (obtain ⟨_, _, _, rfl, _⟩ := h; rfl) | (obtain ⟨_, _, _, _, rfl, _⟩ := h; rfl) | (obtain ⟨_, _, _, _, _, rfl, _⟩ := h; rfl) | (obtain ⟨_, _, _, _, _, _, rfl, _⟩ := h; rfl) | (obtain ⟨_, _, _, _, _, _, _, rfl, _⟩ := h; rfl) | (obtain ⟨_, _, _, _, _, _, _, _, rfl, _⟩ := h; rfl) | (obtain ⟨rfl, _⟩ := h; rfl)
  · obtain ⟨a, i, xs, p, rfl, ha, hr, k⟩ := h
    refine ⟨_, (pss_one (ps_ret (pe_ifExp (pt_cmpR op_lt (pe_op op_add (pv 1) pe_int) (pe_callB WP.c_len (by rfl) B.b_len (by decide +kernel) (WP.pa_consN (pv 0) pa_nil)) (nomark _)) (pe_ix ix_tup (pe_ix ix_list (pv 0) (pe_op op_add (pv 1) pe_int) (fun _ _ => rfl)) pe_int (fun _ _ => rfl)) pe_int))), ?_⟩
    k_updF
    refine WP.lenL ha ?_
    k_updF
    have l := hr.1
    refine WP.br (fun c => ?_) (fun c => ?_)
    · k_updF
      have e := List.getElem?_eq_getElem (l := p) (i := i + 1) (by omega)
      obtain ⟨v, hv, b, pv, vv, rfl, hb, _, _⟩ := hr.at e
      refine WP.ixL ha (v := .ref b) (by rw [show (i : Int) + 1 = ((i + 1 : Nat) : Int) by omega]; exact atI_nat hv) ?_
      k_updF
      refine WP.ixT hb WP.at0 ?_
      rw [e] at k
      exact k
    · k_updF
      have e : p[i + 1]? = none := List.getElem?_eq_none (by omega)
      rw [e] at k
      exact k
end
abbrev s_BadData___init__ : Stmt := inClass (top 4) 0
abbrev N_BadData___init__ : List Str := ["self", "reason", "name"]
theorem sc_BadData___init__ : FnScope N_BadData___init__ ["self", "reason", "name"] (defScope s_BadData___init__) := ⟨rfl, rfl, rfl, by decide +kernel, rfl, by decide +kernel, by decide +kernel⟩
/-- the exception at d: its reason and its name -/
def BDf (x y : V) : List (Str × V) := [("name", y), ("reason", x)]
def sp_BadData___init__ (K : PySem.W.Frag) (mg : WP.MG) : Sp := fun vs H Q _ => ∃ (a : Addr) (x y : V), vs = [.ref a, x, y] ∧ H a = some (exo a (WP.ca mg "BadData") none) ∧
  ∀ (dx : Addr) (H' : Hp), H dx = none → dx ≠ a → H' a = some (exo a (WP.ca mg "BadData") (some dx)) → H' dx = some (exd dx (BDf x y)) → (∀ b o, b ≠ a → b ≠ dx → H b = some o → H' b = some o) → Q .non H'
/-- BadData with this reason and this name is raised -/
def BDr (mg : WP.MG) (H : Hp) (E : XK) (x y : V) : Prop := ∀ (d : Addr) (H' : Hp), Same H H' → H' d = some (.xd (BDf x y)) → E (.ref (WP.ca mg "BadData")) (some d) H'
theorem raise_BD {K : PySem.W.Frag} {mg : WP.MG} {H : Hp} {E : XK} {x y : V} (k : BDr mg H E x y) : [x, y].length ≤ 1000 ∧ ∀ a, H a = none → sp_BadData___init__ K mg (.ref a :: ([x, y] ++ [])) (upd H a (exo a (WP.ca mg "BadData") none))
    (fun v H2 => v = .non ∧ ∃ (d : Addr) (fs : List (Str × V)), H2 a = some (exo a (WP.ca mg "BadData") (some d)) ∧ H2 d = some (exd d fs) ∧ H d = none ∧ E (.ref (WP.ca mg "BadData")) (some d) (upd (del H2 a) d (.xd fs))) (fun _ _ _ => False) := by
  refine ⟨by show 2 ≤ 1000; decide, fun a ha => ⟨a, x, y, rfl, upd_same, fun dx H' n1 n2 h1 h2 keep => ?_⟩⟩
  have n1' : H dx = none := by rw [upd_ne n2] at n1; exact n1
  refine ⟨rfl, dx, BDf x y, h1, h2, n1', k dx _ (fun b o e => ?_) upd_same⟩
  have ba : b ≠ a := fun z => by rw [z, ha] at e; cases e
  have bd : b ≠ dx := fun z => by rw [z, n1'] at e; cases e
  rw [upd_ne bd, del_ne ba]
  exact keep b o ba bd (by rw [upd_ne ba]; exact e)
section
variable {P : Program} {w : World} {K : PySem.W.Frag} {mg : Str → Option Value} {base : Heap}
theorem ok_BadData___init__ {f : Addr} {fd : FuncData} (F : Fun K "__init__" "BadData.__init__" s_BadData___init__ f fd) (B : Blt w K mg)  : FnOk P w K mg base CX0 1 f fd ["self", "reason", "name"] (sp_BadData___init__ K mg) := by
  refine F.ok sc_BadData___init__ (fun vs H Q E h => ?_) (fun cdv A outer s H vs Q E hr h => ?_)
  · first | (obtain ⟨_, rfl, _⟩ := h; rfl) | (obtain ⟨_, _, rfl, _⟩ := h; rfl) | (obtain ⟨_, _, _, rfl, _⟩ := h; rfl) | (obtain ⟨_, _, _, _, rfl, _⟩ := h; rfl) | (obtain ⟨_, _, _, _, _, rfl, _⟩ := h; rfl) | (obtain ⟨_, _, _, _, _, _, rfl, _⟩ := h; rfl) | (obtain ⟨_, _, _, _, _, _, _, rfl, _⟩ := h; rfl) | (obtain ⟨_, _, _, _, _, _, _, _, rfl, _⟩ := h; rfl) | (obtain ⟨rfl, _⟩ := h; rfl)
  · obtain ⟨a, x, y, rfl, ha, k⟩ := h
    refine ⟨_, (pss_cons (ps_ost (pv 0) (pv 1))
      (pss_one (ps_ost (pv 0) (pv 2)))), ?_⟩
    k_updF
    refine ⟨a, _, rfl, B.xi_BadData.o, B.xi_BadData.n _ (by decide +kernel), .inl ⟨ha, fun dx n1 n2 => ?_⟩⟩
    k_updF
    refine ⟨a, _, rfl, B.xi_BadData.o, B.xi_BadData.n _ (by decide +kernel), .inr ⟨dx, [("reason", x)], upd_same, by rw [upd_ne n2, upd_same], by show 1 ≤ 900; decide, ?_⟩⟩
    refine k dx _ n1 n2 (by rw [upd_ne (Ne.symm n2), upd_same]) upd_same (fun b o h1 h2 e => by rw [upd_ne h2, upd_ne h1, upd_ne h2]; exact e)
end
abbrev s__items_of : Stmt := top 22
abbrev N__items_of : List Str := ["entries", "items", "path", "at", "entry", "outer", "reason", "parent", "other"]
theorem sc__items_of : FnScope N__items_of ["entries"] (defScope s__items_of) := ⟨rfl, rfl, rfl, by decide +kernel, rfl, by decide +kernel, by decide +kernel⟩
def sp__items_of (K : PySem.W.Frag) (mg : WP.MG) : Sp := fun vs H Q E => ∃ (E0 : Addr) (vs0 : List V) (rs : List ML.Row), vs = [.ref E0] ∧ SqL K H E0 vs0 ∧ ML.RwA K H vs0 rs ∧ rs.length ≤ 100 ∧ (∀ r ∈ rs, ROk r) ∧
  (∀ (k : Nat) (r : ML.Row), rs[k]? = some r → ML.flt rs k r ≠ [] → (∀ (j : Nat) (r' : ML.Row), j < k → rs[j]? = some r' → ML.flt rs j r' = []) → BDr mg H E (.str (SX.S (ML.flt rs k r))) (.str (SX.S r.nm))) ∧
  ((∀ (k : Nat) (r : ML.Row), rs[k]? = some r → ML.flt rs k r = []) → ∀ (I : Addr) (xs : List ML.Itm) (ms : List ML.Mut) (H' : Hp), Same H H' → H I = none → ML.Grp K H' (WP.ca mg "Item") I xs ms → ML.Fresh rs xs ms → (∀ x ∈ xs, H x.a = none ∧ H x.c = none) → Q (.ref I) H')
section
variable {P : Program} {w : World} {K : PySem.W.Frag} {mg : Str → Option Value} {base : Heap}
theorem ok__items_of {f : Addr} {fd : FuncData} (F : Fun K "_items_of" "_items_of" s__items_of f fd) (B : Blt w K mg) (c__fault_of : WP.Callee P w K mg base CX0 5 "_fault_of" ["entry", "path", "outer", "items", "next_level"] (sp__fault_of K mg)) (c_Item___init__ : WP.CalleeI P w K mg base CX0 3 "Item" ["self", "entry", "parent"] (sp_Item___init__ K mg)) (c__next_level : WP.Callee P w K mg base CX0 1 "_next_level" ["entries", "at"] (sp__next_level K mg)) (c_BadData___init__ : WP.CalleeE P w K mg base CX0 1 "BadData" ["self", "reason", "name"] (sp_BadData___init__ K mg)) : FnOk P w K mg base (L2.CX P w) 6 f fd ["entries"] (sp__items_of K mg) := by
  obtain ⟨f_Item___init__, d_Item___init__, F_Item___init__, M_Item___init__, b_Item___init__⟩ := c_Item___init__.ex
  refine F.okX sc__items_of (fun vs H Q E h => ?_) (fun cdv A outer s H vs Q E hr h => ?_)
  · first | (obtain ⟨_, rfl, _⟩ := h; rfl) | (obtain ⟨_, _, rfl, _⟩ := h; rfl) | (obtain ⟨_, _, _, rfl, _⟩ := h; rfl) | (obtain ⟨_, _, _, _, rfl, _⟩ := h; rfl) | (obtain ⟨_, _, _, _, _, rfl, _⟩ := h; rfl) | (obtain ⟨_, _, _, _, _, _, rfl, _⟩ := h; rfl) | (obtain ⟨_, _, _, _, _, _, _, rfl, _⟩ := h; rfl) | (obtain ⟨_, _, _, _, _, _, _, _, rfl, _⟩ := h; rfl) | (obtain ⟨rfl, _⟩ := h; rfl)
  · obtain ⟨E0, vs0, rs, rfl, hE, hR, hl, hok, kF, kQ⟩ := h
    refine ⟨_, (pss_cons (ps_set (i := 1) sc__items_of.nd rfl (Or.inl rfl) pe_dnewK)
      (pss_cons (ps_set (i := 2) sc__items_of.nd rfl (Or.inl rfl) (pe_lst pa_nil))
      (pss_cons (ps_for (passes_of rfl) rfl (pi_enum (by rfl) B.b_enumerate (WP.pa_consN (pv 0) pa_nil)) (pg_tup (by rfl) (pgs_cons (pg_name (i := 3) sc__items_of.nd rfl (Or.inl rfl)) (pgs_cons (pg_name (i := 4) sc__items_of.nd rfl (Or.inr rfl)) pgs_nil))) (pss_cons (ps_setLc (i := 5) (own := [("other", 8)]) (g := gName 8) rfl sc__items_of.nd rfl rfl (sw_true rfl rfl rfl (by decide +kernel)) (pi_list (pv 2)) (blkOk_by (own := [("other", 8)]) (N := N__items_of) (sc := defScope s__items_of) (by decide +kernel)) (fun _ _ _ _ _ => pg_name (i := 8) sc__items_of.nd rfl (Or.inl rfl)) (fun _ _ _ _ _ => (pts_one (pt_cmpR op_lt (pe_ix (WP.ix_tupK (K := K) rfl) (pv 8) pe_int (fun _ _ => rfl)) (pe_ix (WP.ix_tupK (K := K) rfl) (pv 4) pe_int (fun _ _ => rfl)) (nomark _)))) (fun _ _ _ _ _ => (pv 8)))
      (pss_cons (ps_set (i := 6) sc__items_of.nd rfl (Or.inl rfl) (WP.pe_callC c__fault_of hr rfl pass0 (WP.pa_consN (pv 4) (WP.pa_consN (pv 2) (WP.pa_consN (pv 5) (WP.pa_consN (pv 1) (WP.pa_consN (WP.pe_callC c__next_level hr rfl pass0 (WP.pa_consN (pv 0) (WP.pa_consN (pv 3) pa_nil))) pa_nil)))))))
      (Evl.pss_cut (ps_if (pt_cmpR op_ne (pv 6) (WP.pe_strL [] (by decide +kernel)) (nomark _)) (pss_one (WP.ps_raiseE rfl (takes_of rfl rfl rfl rfl) B.xi_BadData c_BadData___init__ (hr.mono (by decide)) pass0 (by rfl) (WP.pa_consN (pv 6) (WP.pa_consN (pe_ix ix_tup (pv 4) pe_int (fun _ _ => rfl)) pa_nil)))) pss_nil)
      (pss_cons (ps_set (i := 7) sc__items_of.nd rfl (Or.inl rfl) (pe_ifExp (pt_truth (pv 5) (by intro _; rfl)) (pe_ix ix_tup (pe_ix ix_list (pv 5) (pe_un un_neg pe_int) (fun _ _ => rfl)) pe_int (fun _ _ => rfl)) (WP.pe_strL [] (by decide +kernel))))
      (pss_cons (ps_dput (hu_of hr) (pv 1) (pe_ix ix_tup (pv 4) pe_int (fun _ _ => rfl)) (pe_make M_Item___init__ F_Item___init__ (hr.mono (by decide)) rfl B.k_Item.m b_Item___init__ .nil pass0 (WP.pa_consN (pv 4) (WP.pa_consN (pv 7) pa_nil))) rfl)
      (Evl.pss_cut (ps_if (pt_cmpR op_ne (pv 7) (WP.pe_strL [] (by decide +kernel)) (nomark _)) (pss_one (ps_expr (pe_bm PySem.F.plainAttrs_list PySem.F.slot_list_append PySem.F.type_list_append mt_append (pe_fld (pe_dget (hu_of hr) (pv 1) (pv 7) (fun _ _ => rfl)) rfl) (WP.pa_consN (pe_ix ix_tup (pv 4) pe_int (fun _ _ => rfl)) pa_nil)))) pss_nil)
      (pss_one (ps_set (i := 2) sc__items_of.nd rfl (Or.inl rfl) (pe_op op_cat (pv 5) (pe_lst (WP.pa_consN (pv 4) pa_nil))))))))))))
      (pss_one (ps_ret (pv 1)))))), ?_⟩
    have lR := hR.1
    k_updF
    refine fun I hI => ?_
    have e1 : Same H (upd H I (.dK [])) := WP.same_new hI
    have i1 : (upd H I (.dK [])) I = some (.dK []) := upd_same
    generalize upd H I _ = H1 at e1 i1 ⊢
    k_updF
    refine ⟨Nat.zero_le _, fun P0 hP0 => ?_⟩
    have e2 : Same H1 (upd H1 P0 (.lst [])) := WP.same_new hP0
    have p2 : (upd H1 P0 (.lst [])) P0 = some (.lst []) := upd_same
    have nPH := e1.free hP0
    generalize upd H1 P0 _ = H2 at e2 p2 ⊢
    have i2 := e2 _ _ i1
    replace e2 := e1.trans e2
    clear e1 i1 hP0
    k_updF
    refine ⟨E0, vs0, rfl, WP.sql e2 hE, WP.for_enumL (K := K) (a := E0) (xs := vs0) (fun i σ' H' => ∃ (P : Addr) (ps : List V) (xs : List ML.Itm) (ms : List ML.Mut) (z3 z4 z5 z6 z7 z8 : Option V), σ' = [some (.ref E0), some (.ref I), some (.ref P), z3, z4, z5, z6, z7, z8] ∧
      Same H H' ∧ H' P = some (.lst ps) ∧ ML.RwA K H' ps (ML.pathOf (rs.take i)) ∧ ML.Grp K H' (WP.ca mg "Item") I xs ms ∧ ML.Fresh (rs.take i) xs ms ∧ (∀ x ∈ xs, H x.a = none ∧ H x.c = none) ∧ ∀ (j : Nat) (r' : ML.Row), j < i → rs[j]? = some r' → ML.flt rs j r' = [])
      ⟨P0, [], [], [], _, _, _, _, _, _, rfl, e2, p2, by rw [List.take_zero]; exact ML.All2.nil, ⟨rfl, i2, fun k x m h => by simp at h, List.nodup_nil, List.nodup_nil, List.nodup_nil, fun _ h => (List.not_mem_nil h).elim⟩, by rw [List.take_zero]; exact ML.Fresh.nil, fun _ h => (List.not_mem_nil h).elim, fun j r' h => absurd h (Nat.not_lt_zero _)⟩
      (fun i σ' H' _ h => by obtain ⟨_, _, _, _, _, _, _, _, _, _, _, h, _⟩ := h; exact WP.sql h hE) ?_ ?_⟩
    · clear e2 i2 p2 nPH
      rintro i v σ' H1 T hv hT ⟨P, ps, xs, ms, z3, z4, z5, z6, z7, z8, rfl, e1, p1, hps, hg, hf, hnew, hno⟩
      obtain ⟨r, hri, hrow⟩ := hR.get hv
      have hi := (List.getElem?_eq_some_iff.mp hri).1
      have et : rs.take (i + 1) = rs.take i ++ [r] := by rw [List.take_succ, hri]; rfl
      have hrok := hok r (List.mem_of_getElem? hri)
      have e2 : Same H1 (upd H1 T (.tup [.int (i : Int), v])) := WP.same_new hT
      have t2 : (upd H1 T (.tup [.int (i : Int), v])) T = some (.tup [.int (i : Int), v]) := upd_same
      generalize upd H1 T _ = H2 at e2 t2 ⊢
      have p2 := e2 _ _ p1
      replace hps := hps.keep fun b us h => WP.sqt e2 h
      replace hg := hg.same e2
      replace e2 := e1.trans e2
      clear e1 p1 hT
      refine WP.unT (SqT.of t2) rfl ?_
      clear t2
      k_updF
      have hpl : (ML.pathOf (rs.take i)).length ≤ 100 := by have := ML.path_len (rs.take i); rw [List.length_take] at this; omega
      have hrow2 := hrow.keep fun b us h => WP.sqt e2 h
      obtain ⟨ra, pz, vz, rfl, hra, hpv, hvv⟩ := hrow2
      refine ⟨P, rfl, ⟨_, SqL.of p2⟩, fun O hO => lc_list (K := K) (a := P) (xs := ps) (fun j H' => Same H2 H' ∧ ∃ ys, H' O = some (.lst ys) ∧ ML.RwA K H' ys (ML.below r.lv ((ML.pathOf (rs.take i)).take j))) ⟨WP.same_new hO, [], upd_same, by rw [List.take_zero]; exact ML.All2.nil⟩ (fun j H' _ h => SqL.of (h.1 _ _ p2)) ?_ ?_⟩
      · rintro j x H3 hx ⟨e3, ys, o3, hy⟩
        obtain ⟨q, hq, hqr⟩ := hps.get hx
        have eq' : (ML.pathOf (rs.take i)).take (j + 1) = (ML.pathOf (rs.take i)).take j ++ [q] := by rw [List.take_succ, hq]; rfl
        have hqr3 := hqr.keep fun b us h => WP.sqt e3 h
        obtain ⟨qa, qp, qv, rfl, hqa, hq1, hq2⟩ := hqr3
        have yl := hy.1
        have yl2 := List.length_filter_le (fun o : ML.Row => decide (o.lv < r.lv)) ((ML.pathOf (rs.take i)).take j)
        rw [List.length_take] at yl2
        k_updF
        refine ⟨rfl, ?_⟩
        k_updF
        refine WP.ixT hqa WP.at0 ?_
        k_updF
        refine WP.ixT (WP.sqt e3 hra) WP.at0 ?_
        k_updF
        by_cases c : (q.lv : Int) < (r.lv : Int)
        · rw [decide_eq_true c]
          refine WP.brT rfl ?_
          k_updF
          have kp : ∀ b us, SqT K H3 b us → SqT K (upd H3 O (.lst (ys ++ [.ref qa]))) b us := fun b us h => ML.sqt_lst o3 h
          refine ⟨ys, o3, by rw [sizeLine_eq]; unfold ML.below at yl; omega, WP.same_mut e3 hO, _, upd_same, ?_⟩
          rw [eq', show ML.below r.lv ((ML.pathOf (rs.take i)).take j ++ [q]) = ML.below r.lv ((ML.pathOf (rs.take i)).take j) ++ [q] from by unfold ML.below; rw [List.filter_append]; simp [show q.lv < r.lv by omega]]
          exact (hy.keep kp).app (ML.All2.one ((show ML.RowAt K H3 (.ref qa) q from ⟨qa, qp, qv, rfl, hqa, hq1, hq2⟩).keep kp))
        · rw [decide_eq_false c]
          refine WP.brF rfl ⟨e3, ys, o3, ?_⟩
          rw [eq', show ML.below r.lv ((ML.pathOf (rs.take i)).take j ++ [q]) = ML.below r.lv ((ML.pathOf (rs.take i)).take j) from by unfold ML.below; rw [List.filter_append]; simp [show ¬ q.lv < r.lv by omega]]
          exact hy
      rintro H3 ⟨e3, ys, o3, hy⟩
      rw [hps.1, List.take_length] at hy
      have hOx : ∀ y ∈ xs, y.c ≠ O := fun y hy => by
        obtain ⟨k, hk⟩ := List.getElem?_of_mem hy
        have hm := List.getElem?_eq_getElem (l := ms) (i := k) (by rw [hg.len]; exact (List.getElem?_eq_some_iff.mp hk).1)
        exact ne_of_none (hg.o k y _ hk hm).2 hO
      have p3 := e3 _ _ p2
      replace hps := hps.keep fun b us h => WP.sqt e3 h
      replace hg := hg.same e3
      replace hra := WP.sqt e3 hra
      replace hpv := hpv.keep fun b us h => WP.sqt e3 h
      replace hvv := hvv.keep fun b us h => WP.sqt e3 h
      have nOP := ne_of_none p2 hO
      have hOH := e2.free hO
      replace e3 := e2.trans e3
      clear e2 p2 hO
      k_updF
      have hR3 : ML.RwA K H3 vs0 rs := hR.keep fun b us h => WP.sqt e3 h
      refine ⟨E0, i, vs0, rs, rfl, WP.sql e3 hE, hR3, ?_⟩
      have hnm : xs.map (fun x => x.r.nm) = ML.nmsOf (rs.take i) := by rw [← hf.r]; unfold ML.nmsOf; rw [List.map_map]; rfl
      refine ⟨.ref ra, P, O, I, r, ps, ys, ML.pathOf (rs.take i), xs.map ML.ent, ML.nmsOf (rs.take i), ML.nxl rs i, rfl, ⟨ra, pz, vz, rfl, hra, hpv, hvv⟩, hrok, SqL.of p3, hps, by omega, SqL.of o3, hy, hg.d, by rw [hg.has, hnm], fun H4 e4 => ?_⟩
      have p4 := e4 _ _ p3
      have o4 := e4 _ _ o3
      replace hps := hps.keep fun b us h => WP.sqt e4 h
      replace hy := hy.keep fun b us h => WP.sqt e4 h
      replace hg := hg.same e4
      replace hra := WP.sqt e4 hra
      replace hpv := hpv.keep fun b us h => WP.sqt e4 h
      replace hvv := hvv.keep fun b us h => WP.sqt e4 h
      replace e4 := e3.trans e4
      clear e3 p3 o3 hR3
      k_updF
      refine WP.cut (fun σ' H' => H' = H4 ∧ σ' = [some (.ref E0), some (.ref I), some (.ref P), some (.int (i : Int)), some (.ref ra), some (.ref O), some (.str (SX.S [])), z7, z8] ∧ ML.flt rs i r = []) ?_ ?_
      · k_updF
        by_cases hfl : ML.flt rs i r = []
        · rw [show ML.fault (ML.nmsOf (rs.take i)) (ML.pathOf (rs.take i)) r (ML.nxl rs i) = [] from hfl]
          refine WP.brF (by rw [decide_eq_true rfl]; rfl) ?_
          k_updF
          exact ⟨rfl, rfl, hfl⟩
        · refine WP.brT (by rw [decide_eq_false (show ¬ ML.fault (ML.nmsOf (rs.take i)) (ML.pathOf (rs.take i)) r (ML.nxl rs i) = [] from hfl)]; rfl) ?_
          refine WP.mko ?_
          k_updF
          refine WP.ixT hra WP.at1 ?_
          k_updF
          exact raise_BD fun d H' e hd => kF i r hri hfl hno d H' (e4.trans e) hd
      rintro σ' H' ⟨rfl, rfl, hfl⟩
      have hno2 : ∀ (j : Nat) (r' : ML.Row), j < i + 1 → rs[j]? = some r' → ML.flt rs j r' = [] := fun j r' hj hr' => by
        by_cases e : j = i
        · subst e; rw [hri] at hr'; cases hr'; exact hfl
        · exact hno j r' (by omega) hr'
      k_updF
      refine ⟨_, WP.trL (SqL.of o4), ?_⟩
      refine ML.par_read (i := 5) rfl o4 hy ?_
      have hparE : ML.parN (ML.pathOf (rs.take i)) r = ML.parN (ML.pathOf (rs.take i)) r := rfl
      generalize hpar : ML.parN (ML.pathOf (rs.take i)) r = par
      clear hparE
      k_updF
      intro x dx nx ndx ndxx
      have sm : Same H' (upd (upd H' dx (.own x)) x (.ins (WP.ca mg "Item") dx [])) := WP.same_made nx ndx
      refine ⟨x, dx, .ref ra, r, par, rfl, upd_same, ⟨ra, pz, vz, rfl, WP.sqt sm hra, hpv.keep (fun b us h => WP.sqt sm h), hvv.keep (fun b us h => WP.sqt sm h)⟩, hrok, fun c pz' vz' H5 hc hx5 hc5 hpv5 hvv5 keep => ⟨rfl, ?_⟩⟩
      have hcH : H' c = none := sm.free hc
      have nxc : ∀ b o, H' b = some o → b ≠ x := fun b o e z => by rw [z, nx] at e; cases e
      have e5 : Same H' H5 := fun b o e => keep b o (nxc b o e) (sm b o e)
      have hv5 : ML.PicV K H5 pz' r.pc ∧ ML.ValV K H5 vz' r.vl := by
        have kk : ∀ b us, SqT K (upd (upd H' dx (.own x)) x (.ins (WP.ca mg "Item") dx [])) b us → SqT K H5 b us := fun b us h => by
          rcases h with (h | ⟨o, h⟩) | h
          · exact .inl (.inl (keep _ _ (fun z => by rw [z, upd_same] at h; cases h) h))
          · exact .inl (.inr ⟨o, keep _ _ (fun z => by rw [z, upd_same] at h; cases h) h⟩)
          · exact .inr h
        exact ⟨hpv5.keep kk, hvv5.keep kk⟩
      clear keep hc ndxx hpv5 hvv5 sm
      have hnmn : r.nm ∉ xs.map fun x => x.r.nm := by rw [hnm]; exact ML.fault_nm hfl
      have hnex : ∀ y ∈ xs, y.a ≠ x ∧ y.c ≠ c := fun y hy => by
        obtain ⟨k, hk⟩ := List.getElem?_of_mem hy
        have hm := List.getElem?_eq_getElem (l := ms) (i := k) (by rw [hg.len]; exact (List.getElem?_eq_some_iff.mp hk).1)
        obtain ⟨h1, h2⟩ := hg.o k y _ hk hm
        exact ⟨nxc _ _ h1, fun z => by rw [z, hcH] at h2; cases h2⟩
      have p5 := e5 _ _ p4
      have o5 := e5 _ _ o4
      replace hps := hps.keep fun b us h => WP.sqt e5 h
      replace hy := hy.keep fun b us h => WP.sqt e5 h
      replace hra := WP.sqt e5 hra
      replace hpv := hpv.keep fun b us h => WP.sqt e5 h
      replace hvv := hvv.keep fun b us h => WP.sqt e5 h
      have hg5 := hg.same e5
      have hxH : H x = none := e4.free nx
      have hcHH : H c = none := e4.free hcH
      replace e5 := e4.trans e5
      clear e4 p4 o4 hg
      k_updF
      refine WP.ixT hra WP.at1 ?_
      have lxs := hf.len
      rw [List.length_take] at lxs
      refine ⟨I, _, rfl, DPut.k (k := Sum.inr (SX.S r.nm)) hg5.d (by rw [List.length_map, sizeLine_eq]; omega), ?_⟩
      have hg6 := hg5.add (x := ⟨x, dx, c, pz', vz', r, par⟩) (m := ⟨0, ML.isz r.pc, []⟩) hx5 hc5 (fun y hy => (hnex y hy).1) (fun y hy => (hnex y hy).2) hnmn hv5
      have kp6 : ∀ b us, SqT K H5 b us → SqT K (upd H5 I (.dK (putK (xs.map ML.ent) (Sum.inr (SX.S r.nm)) (.ref x)))) b us := fun b us h => ML.sqt_dk hg5.d h
      have p6 : (upd H5 I (.dK (putK (xs.map ML.ent) (Sum.inr (SX.S r.nm)) (.ref x)))) P = some (.lst ps) := by rw [upd_ne (ne_of p5 hg5.d (by intro z; cases z))]; exact p5
      have o6 : (upd H5 I (.dK (putK (xs.map ML.ent) (Sum.inr (SX.S r.nm)) (.ref x)))) O = some (.lst ys) := by rw [upd_ne (ne_of o5 hg5.d (by intro z; cases z))]; exact o5
      have e6 : Same H (upd H5 I (.dK (putK (xs.map ML.ent) (Sum.inr (SX.S r.nm)) (.ref x)))) := WP.same_mut e5 hI
      replace hps := hps.keep kp6
      replace hy := hy.keep kp6
      replace hra := kp6 _ _ hra
      replace hpv := hpv.keep kp6
      replace hvv := hvv.keep kp6
      generalize upd H5 I _ = H6 at hg6 kp6 p6 o6 e6 hps hy hra hpv hvv ⊢
      have hnew2 : ∀ y ∈ xs ++ [(⟨x, dx, c, pz', vz', r, par⟩ : ML.Itm)], H y.a = none ∧ H y.c = none := fun y hy => by
        rcases List.mem_append.mp hy with z | z
        · exact hnew y z
        · rw [List.mem_singleton.mp z]; exact ⟨hxH, hcHH⟩
      clear e5 hg5 p5 o5 kp6 hx5 hc5 hv5 hxH hcHH hnex hnew
      k_updF
      refine WP.cut (fun σ' H' => σ' = [some (.ref E0), some (.ref I), some (.ref P), some (.int (i : Int)), some (.ref ra), some (.ref O), some (.str (SX.S [])), some (.str (SX.S par)), z8] ∧ Same H H' ∧ H' O = some (.lst ys) ∧ ML.RwA K H' ys (ML.below r.lv (ML.pathOf (rs.take i))) ∧ ML.RowAt K H' (.ref ra) r ∧ ∃ ms', ML.Grp K H' (WP.ca mg "Item") I (xs ++ [⟨x, dx, c, pz', vz', r, par⟩]) ms' ∧ ML.Fresh (rs.take i ++ [r]) (xs ++ [⟨x, dx, c, pz', vz', r, par⟩]) ms') ?_ ?_
      · k_updF
        have hnes : ∀ y ∈ xs, y.r.nm ≠ [] := fun y hy => by
          have : y.r ∈ rs.take i := by rw [← hf.r]; exact List.mem_map.mpr ⟨y, hy, rfl⟩
          exact (hok _ (List.mem_of_mem_take this)).ne
        by_cases h0 : par = []
        · refine WP.brF (by rw [decide_eq_true h0]; rfl) ?_
          k_updF
          exact ⟨rfl, e6, o6, hy, ⟨ra, pz, vz, rfl, hra, hpv, hvv⟩, _, hg6, hf.root (y := ⟨x, dx, c, pz', vz', r, par⟩) hpar.symm h0 hnmn hrok.ne hnes⟩
        · refine WP.brT (by rw [decide_eq_false h0]; rfl) ?_
          k_updF
          obtain ⟨o, ho, hop⟩ := (ML.parN_mem (p := ML.pathOf (rs.take i)) (r := r)).resolve_left (by rw [hpar]; exact h0)
          rw [hpar] at hop
          obtain ⟨q, x0, hx0, rfl⟩ := hf.find (ML.path_mem o ho)
          have lq := (List.getElem?_eq_some_iff.mp hx0).1
          obtain ⟨m0, hm0⟩ : ∃ m0, ms[q]? = some m0 := ⟨_, List.getElem?_eq_getElem (by have h7 := hf.m; rw [h7, List.length_map]; exact lq)⟩
          have hx6 : (xs ++ [(⟨x, dx, c, pz', vz', r, par⟩ : ML.Itm)])[q]? = some x0 := by rw [List.getElem?_append_left lq]; exact hx0
          have hm6 : (ms ++ [(⟨0, ML.isz r.pc, []⟩ : ML.Mut)])[q]? = some m0 := by rw [List.getElem?_append_left (List.getElem?_eq_some_iff.mp hm0).1]; exact hm0
          obtain ⟨hia, hic⟩ := hg6.o q x0 m0 hx6 hm6
          have hgv := hg6.get hx6
          rw [hop] at hgv
          refine ⟨I, _, rfl, hgv ▸ getS hg6.d, ?_⟩
          refine ⟨x0.a, _, x0.dx, _, _, rfl, hia, B.k_Item.c, B.k_Item.n _ (by decide +kernel), ML.f_children, ?_⟩
          refine WP.tyL (SqL.of hic) ?_
          k_updF
          refine WP.ixT hra WP.at1 ?_
          k_updF
          have hml : m0.ch.length ≤ 100 := by
            have h7 := hf.m
            rw [h7, List.getElem?_map, hx0] at hm0
            cases hm0
            show (ML.chs xs x0.r.nm).length ≤ 100
            unfold ML.chs
            rw [List.length_map]
            have := List.length_filter_le (fun x : ML.Itm => decide (x.par = x0.r.nm)) xs
            omega
          refine WP.appL hic (by rw [sizeLine_eq, List.length_map]; omega) ?_
          have kp7 : ∀ b us, SqT K H6 b us → SqT K (upd H6 x0.c (.lst (ML.tx m0.ch ++ [.str (SX.S r.nm)]))) b us := fun b us h => ML.sqt_lst hic h
          have hx0m := List.mem_of_getElem? hx6
          exact ⟨rfl, WP.same_mut e6 (hnew2 x0 hx0m).2, by rw [upd_ne (Ne.symm (hOx x0 (List.mem_of_getElem? hx0)))]; exact o6, hy.keep kp7, ⟨ra, pz, vz, rfl, kp7 _ _ hra, hpv.keep kp7, hvv.keep kp7⟩, _, hg6.setC hx6 hm6 r.nm, hf.inner (y := ⟨x, dx, c, pz', vz', r, par⟩) hpar.symm hx0 hm0 hop.symm hnmn hrok.ne (by have := hg6.nm; rw [List.map_append] at this; exact (List.nodup_append.mp this).1)⟩
      clear e6 hg6 o6 p6 hps hy hra hpv hvv
      rintro σ' H7 ⟨rfl, e7, o7, hy, hrow, ms', hg, hf'⟩
      k_updF
      refine ⟨Nat.le_of_ble_eq_true rfl, fun L hL => ?_⟩
      have e8 : Same H7 (upd H7 L (.lst [.ref ra])) := WP.same_new hL
      have l8 : (upd H7 L (.lst [.ref ra])) L = some (.lst [.ref ra]) := upd_same
      generalize upd H7 L _ = H8 at e8 l8 ⊢
      have yl := hy.1
      have yl2 := List.length_filter_le (fun o : ML.Row => decide (o.lv < r.lv)) (ML.pathOf (rs.take i))
      refine WP.catLL (e8 _ _ o7) l8 (by unfold ML.below at yl; show _ + 1 ≤ _; omega) (fun P' hP' => ?_)
      have e9 : Same H8 (upd H8 P' (.lst (ys ++ [.ref ra]))) := WP.same_new hP'
      have kp9 : ∀ b us, SqT K H7 b us → SqT K (upd H8 P' (.lst (ys ++ [.ref ra]))) b us := fun b us h => WP.sqt (e8.trans e9) h
      k_updF
      refine ⟨P', ys ++ [.ref ra], _, ms', _, _, _, _, _, _, rfl, e7.trans (e8.trans e9), upd_same, ?_, hg.same (e8.trans e9), by rw [et]; exact hf', hnew2, hno2⟩
      rw [et, ML.pathOf_snoc]
      exact (hy.keep kp9).app (ML.All2.one (hrow.keep kp9))
    rintro σ' H' ⟨P, ps, xs, ms, z3, z4, z5, z6, z7, z8, rfl, e1, p1, hps, hg, hf, hnew, hno⟩
    rw [lR, List.take_length] at hf
    k_updF
    exact kQ (fun k r h => hno k r (by rw [lR]; exact (List.getElem?_eq_some_iff.mp h).1) h) I xs ms H' e1 hI hg hf hnew
end
abbrev s__times_of : Stmt := top 30
abbrev N__times_of : List Str := ["item"]
theorem sc__times_of : FnScope N__times_of ["item"] (defScope s__times_of) := ⟨rfl, rfl, rfl, by decide +kernel, rfl, by decide +kernel, by decide +kernel⟩
def sp__times_of (K : PySem.W.Frag) (mg : WP.MG) : Sp := fun vs H Q _ => ∃ (a dx c : Addr) (pz vz : V) (r : ML.Row) (par : ML.Tx) (off sz : Nat), vs = [.ref a] ∧ H a = some (.ins (WP.ca mg "Item") dx (ML.flds r pz vz par off sz c)) ∧ Q (.int (ML.tms r : Nat)) H
section
variable {P : Program} {w : World} {K : PySem.W.Frag} {mg : Str → Option Value} {base : Heap}
theorem ok__times_of {f : Addr} {fd : FuncData} (F : Fun K "_times_of" "_times_of" s__times_of f fd) (B : Blt w K mg)  : FnOk P w K mg base CX0 1 f fd ["item"] (sp__times_of K mg) := by
  refine F.ok sc__times_of (fun vs H Q E h => ?_) (fun cdv A outer s H vs Q E hr h => ?_)
  · obtain ⟨_, _, _, _, _, _, _, _, _, rfl, _⟩ := h; rfl
  · obtain ⟨a, dx, c, pz, vz, r, par, off, sz, rfl, ha, k⟩ := h
    refine ⟨_, (pss_one (ps_ret (pe_callB (WP.c_max2 rfl) (by rfl) B.b_max (by decide +kernel) (WP.pa_consN pe_int (WP.pa_consN (pe_fld (pv 0) rfl) pa_nil))))), ?_⟩
    k_updF
    refine ⟨a, _, dx, _, _, rfl, ha, B.k_Item.c, B.k_Item.n _ (by decide +kernel), ML.f_times, ?_⟩
    k_updF
    refine WP.maxI ?_
    rw [show max (1 : Int) (r.tm : Int) = ((ML.tms r : Nat) : Int) by unfold ML.tms; omega]
    exact k
end
abbrev s__add_sizes : Stmt := top 28
abbrev N__add_sizes : List Str := ["items", "item", "group"]
theorem sc__add_sizes : FnScope N__add_sizes ["items"] (defScope s__add_sizes) := ⟨rfl, rfl, rfl, by decide +kernel, rfl, by decide +kernel, by decide +kernel⟩
def sp__add_sizes (K : PySem.W.Frag) (mg : WP.MG) : Sp := fun vs H Q _ => ∃ (I : Addr) (xs : List ML.Itm) (ms : List ML.Mut), vs = [.ref I] ∧ ML.Grp K H (WP.ca mg "Item") I xs ms ∧ xs.length ≤ 100 ∧ (∀ x ∈ xs, x.par = [] ∨ x.par ∈ xs.map fun x => x.r.nm) ∧ (∀ x ∈ xs, x.r.tm ≤ 50) ∧
  (∀ (i j : Nat) (m : ML.Mut), (ML.szs xs ms i)[j]? = some m → m.sz ≤ 10 ^ 9) ∧ ∀ H', (∀ b o, (∀ x ∈ xs, b ≠ x.a) → H b = some o → H' b = some o) → ML.Grp K H' (WP.ca mg "Item") I xs (ML.szs xs ms xs.length) → Q .non H'
section
variable {P : Program} {w : World} {K : PySem.W.Frag} {mg : Str → Option Value} {base : Heap}
theorem ok__add_sizes {f : Addr} {fd : FuncData} (F : Fun K "_add_sizes" "_add_sizes" s__add_sizes f fd) (B : Blt w K mg) (c__times_of : WP.Callee P w K mg base CX0 1 "_times_of" ["item"] (sp__times_of K mg)) : FnOk P w K mg base CX0 2 f fd ["items"] (sp__add_sizes K mg) := by
  refine F.ok sc__add_sizes (fun vs H Q E h => ?_) (fun cdv A outer s H vs Q E hr h => ?_)
  · first | (obtain ⟨_, rfl, _⟩ := h; rfl) | (obtain ⟨_, _, rfl, _⟩ := h; rfl) | (obtain ⟨_, _, _, rfl, _⟩ := h; rfl) | (obtain ⟨_, _, _, _, rfl, _⟩ := h; rfl) | (obtain ⟨_, _, _, _, _, rfl, _⟩ := h; rfl) | (obtain ⟨_, _, _, _, _, _, rfl, _⟩ := h; rfl) | (obtain ⟨_, _, _, _, _, _, _, rfl, _⟩ := h; rfl) | (obtain ⟨_, _, _, _, _, _, _, _, rfl, _⟩ := h; rfl) | (obtain ⟨rfl, _⟩ := h; rfl)
  · obtain ⟨I, xs, ms, rfl, hg, hl, hpar, htm, hB, k⟩ := h
    refine ⟨_, (pss_one (ps_for PassesOwn.never rfl (pi_reversed (by rfl) B.b_reversed (WP.pa_consN (WP.pe_listVals rfl (pv 0) (by rfl) B.b_list (by decide +kernel)) pa_nil)) (pg_name (i := 1) sc__add_sizes.nd rfl (Or.inl rfl)) (pss_one (ps_if (pt_cmpR op_ne (pe_fld (pv 1) rfl) (WP.pe_strL [] (by decide +kernel)) (nomark _)) (pss_cons (ps_set (i := 2) sc__add_sizes.nd rfl (Or.inl rfl) (pe_dget (hu_of hr) (pv 0) (pe_fld (pv 1) rfl) (fun _ _ => rfl)))
      (pss_one (ps_fld (pv 2) (pe_op op_add (pe_fld (pv 2) rfl) (pe_op op_mulW (pe_fld (pv 1) rfl) (WP.pe_callC c__times_of hr rfl pass0 (WP.pa_consN (pv 1) pa_nil)))) rfl))) pss_nil)))), ?_⟩
    k_updF
    refine ⟨I, _, rfl, hg.d, fun L hL => ?_⟩
    have hmap : (xs.map ML.ent).map (·.2) = ML.refs xs := by rw [List.map_map]; rfl
    rw [hmap]
    have e1 : Same H (upd H L (.lst (ML.refs xs))) := WP.same_new hL
    have l1 : (upd H L (.lst (ML.refs xs))) L = some (.lst (ML.refs xs)) := upd_same
    have hLc : ∀ x ∈ xs, x.c ≠ L := fun y hy => by
      obtain ⟨k, hk⟩ := List.getElem?_of_mem hy
      have hm := List.getElem?_eq_getElem (l := ms) (i := k) (by rw [hg.len]; exact (List.getElem?_eq_some_iff.mp hk).1)
      exact ne_of_none (hg.o k y _ hk hm).2 hL
    generalize upd H L _ = H1 at e1 l1 ⊢
    have hg1 := hg.same e1
    k_updF
    have hxl : (ML.refs xs).length = xs.length := List.length_map ..
    refine ⟨L, _, rfl, SqL.of l1, WP.for_revL (K := K) (a := L) (xs := ML.refs xs) (fun i σ' H' => ∃ z1 z2, σ' = [some (.ref I), z1, z2] ∧ (∀ b o, (∀ x ∈ xs, b ≠ x.a) → H b = some o → H' b = some o) ∧ H' L = some (.lst (ML.refs xs)) ∧ ML.Grp K H' (WP.ca mg "Item") I xs (ML.szs xs ms i)) ⟨_, _, rfl, fun b o _ h => e1 b o h, l1, hg1⟩ (fun i σ' H' _ h => by obtain ⟨_, _, _, _, h, _⟩ := h; exact SqL.of h) ?_ ?_⟩
    · clear e1 l1 hg1
      rintro i y σ' H2 hy hi ⟨z1, z2, rfl, e2, l2, hg2⟩
      rw [hxl] at hy hi
      rw [List.getElem?_map] at hy
      obtain ⟨x, hx, rfl⟩ : ∃ x, xs[xs.length - 1 - i]? = some x ∧ V.ref x.a = y := by
        cases e : xs[xs.length - 1 - i]? with
        | none => rw [e] at hy; cases hy
        | some x => rw [e] at hy; exact ⟨x, rfl, Option.some.inj hy⟩
      have hxm := List.mem_of_getElem? hx
      obtain ⟨m, hm⟩ : ∃ m, (ML.szs xs ms i)[xs.length - 1 - i]? = some m := ⟨_, List.getElem?_eq_getElem (by rw [hg2.len]; omega)⟩
      obtain ⟨hxa, hxc⟩ := hg2.o _ x m hx hm
      k_updF
      refine ⟨x.a, _, x.dx, _, _, rfl, hxa, B.k_Item.c, B.k_Item.n _ (by decide +kernel), ML.f_parent, ?_⟩
      k_updF
      by_cases h0 : x.par = []
      · refine WP.brF (by rw [decide_eq_true h0]; rfl) ?_
        k_updF
        refine ⟨_, _, rfl, e2, l2, ?_⟩
        have : ML.szs xs ms (i + 1) = ML.szs xs ms i := by
          show ML.szStep xs (ML.szs xs ms i) (xs.length - 1 - i) = _
          unfold ML.szStep
          rw [hx, hm]
          exact if_pos h0
        rw [this]; exact hg2
      · refine WP.brT (by rw [decide_eq_false h0]; rfl) ?_
        obtain ⟨g, hgx, hgn⟩ := ML.pix_at hg.nm ((hpar x hxm).resolve_left h0)
        obtain ⟨n, hn⟩ : ∃ n, (ML.szs xs ms i)[ML.pix xs x.par]? = some n := ⟨_, List.getElem?_eq_getElem (by rw [hg2.len]; exact (List.getElem?_eq_some_iff.mp hgx).1)⟩
        obtain ⟨hga, hgc⟩ := hg2.o _ g n hgx hn
        have hgv := hg2.get hgx
        rw [hgn] at hgv
        have hstep : ML.szs xs ms (i + 1) = (ML.szs xs ms i).set (ML.pix xs x.par) ⟨n.off, n.sz + m.sz * ML.tms x.r, n.ch⟩ := by
          show ML.szStep xs (ML.szs xs ms i) (xs.length - 1 - i) = _
          unfold ML.szStep
          rw [hx, hm]
          show (if x.par = [] then _ else _) = _
          rw [if_neg h0, hn]
        k_updF
        refine ⟨x.a, _, x.dx, _, _, rfl, hxa, B.k_Item.c, B.k_Item.n _ (by decide +kernel), ML.f_parent, ?_⟩
        refine ⟨I, _, rfl, hgv ▸ getS hg2.d, ?_⟩
        k_updF
        refine ⟨g.a, _, g.dx, _, _, rfl, hga, B.k_Item.c, B.k_Item.n _ (by decide +kernel), ML.f_size, ?_⟩
        k_updF
        refine ⟨x.a, _, x.dx, _, _, rfl, hxa, B.k_Item.c, B.k_Item.n _ (by decide +kernel), ML.f_size, ?_⟩
        k_updF
        refine ⟨x.a, x.dx, x.c, x.pz, x.vz, x.r, x.par, m.off, m.sz, rfl, hxa, ?_⟩
        have b1 := hB i _ m hm
        have b2 := htm x hxm
        refine WP.iC (WP.Bt.w (a := 40) (b := 10) (by unfold WP.Bt; rw [Int.natAbs_natCast]; omega) (by unfold WP.Bt ML.tms; rw [Int.natAbs_natCast]; omega)) ?_
        k_updF
        refine ⟨g.a, _, g.dx, _, rfl, hga, B.k_Item.c, B.k_Item.n _ (by decide +kernel), ML.f_len, ?_⟩
        have hM := hg2.setM hgx hn n.off (n.sz + m.sz * ML.tms x.r)
        rw [show ((n.sz : Int) + (m.sz : Int) * ((ML.tms x.r : Nat) : Int)) = ((n.sz + m.sz * ML.tms x.r : Nat) : Int) by rw [Int.natCast_add, Int.natCast_mul], ML.p_size]
        refine ⟨_, _, rfl, fun b o hb h => ?_, by rw [upd_ne (ne_of l2 hga (by intro z; cases z))]; exact l2, by rw [hstep]; exact hM⟩
        rw [upd_ne (hb g (List.mem_of_getElem? hgx))]
        exact e2 b o hb h
    rintro σ' H2 ⟨z1, z2, rfl, e2, l2, hg2⟩
    rw [hxl] at hg2
    k_updF
    exact k H2 e2 hg2
end
abbrev s__add_offsets : Stmt := top 29
abbrev N__add_offsets : List Str := ["items", "free", "name", "item"]
theorem sc__add_offsets : FnScope N__add_offsets ["items"] (defScope s__add_offsets) := ⟨rfl, rfl, rfl, by decide +kernel, rfl, by decide +kernel, by decide +kernel⟩
def sp__add_offsets (K : PySem.W.Frag) (mg : WP.MG) : Sp := fun vs H Q _ => ∃ (I : Addr) (xs : List ML.Itm) (ms : List ML.Mut), vs = [.ref I] ∧ ML.Grp K H (WP.ca mg "Item") I xs ms ∧ xs.length ≤ 100 ∧ (∀ (k : Nat) (x : ML.Itm), xs[k]? = some x → x.par = [] ∨ x.par ∈ (xs.take k).map fun x => x.r.nm) ∧ (∀ x ∈ xs, x.r.tm ≤ 50 ∧ x.r.nm ≠ []) ∧
  (∀ m ∈ ms, m.sz ≤ 10 ^ 9) ∧ ∀ H', (∀ b o, b ≠ I → (∀ x ∈ xs, b ≠ x.a) → H b = some o → H' b = some o) → ML.Grp K H' (WP.ca mg "Item") I xs (ML.ofs xs ms xs.length).2 → Q (.int ((ML.ofs xs ms xs.length).1 [] : Nat)) H'
section
variable {P : Program} {w : World} {K : PySem.W.Frag} {mg : Str → Option Value} {base : Heap}
theorem ok__add_offsets {f : Addr} {fd : FuncData} (F : Fun K "_add_offsets" "_add_offsets" s__add_offsets f fd) (B : Blt w K mg) (c__times_of : WP.Callee P w K mg base CX0 1 "_times_of" ["item"] (sp__times_of K mg)) : FnOk P w K mg base CX0 2 f fd ["items"] (sp__add_offsets K mg) := by
  refine F.ok sc__add_offsets (fun vs H Q E h => ?_) (fun cdv A outer s H vs Q E hr h => ?_)
  · first | (obtain ⟨_, rfl, _⟩ := h; rfl) | (obtain ⟨_, _, rfl, _⟩ := h; rfl) | (obtain ⟨_, _, _, rfl, _⟩ := h; rfl) | (obtain ⟨_, _, _, _, rfl, _⟩ := h; rfl) | (obtain ⟨_, _, _, _, _, rfl, _⟩ := h; rfl) | (obtain ⟨_, _, _, _, _, _, rfl, _⟩ := h; rfl) | (obtain ⟨_, _, _, _, _, _, _, rfl, _⟩ := h; rfl) | (obtain ⟨_, _, _, _, _, _, _, _, rfl, _⟩ := h; rfl) | (obtain ⟨rfl, _⟩ := h; rfl)
  · obtain ⟨I, xs, ms, rfl, hg, hl, hpar, htm, hB, k⟩ := h
    refine ⟨_, (pss_cons (ps_set (i := 1) sc__add_offsets.nd rfl (Or.inl rfl) (pe_disp (pps_cons (WP.pe_strL [] (by decide +kernel)) pe_int pps_nil) (by rfl) (by rfl) (fun h => nomatch h) (by decide)))
      (pss_cons (ps_lock (ps_for PassesOwn.never rfl (pi_items (pv 0)) (pg_tup (by rfl) (pgs_cons (pg_name (i := 2) sc__add_offsets.nd rfl (Or.inl rfl)) (pgs_cons (pg_name (i := 3) sc__add_offsets.nd rfl (Or.inl rfl)) pgs_nil))) (pss_cons (ps_fld (pv 3) (pe_dget (hu_of hr) (pv 1) (pe_fld (pv 3) rfl) (fun _ _ => rfl)) rfl)
      (pss_cons (ps_dput (hu_of hr) (pv 1) (pv 2) (pe_fld (pv 3) rfl) rfl)
      (pss_one (ps_dput (hu_of hr) (pv 1) (pe_fld (pv 3) rfl) (pe_op op_add (pe_fld (pv 3) rfl) (pe_op op_mulW (pe_fld (pv 3) rfl) (WP.pe_callC c__times_of hr rfl pass0 (WP.pa_consN (pv 3) pa_nil)))) rfl))))))
      (pss_one (ps_ret (pe_dget (hu_of hr) (pv 1) (WP.pe_strL [] (by decide +kernel)) (fun _ _ => rfl)))))), ?_⟩
    k_updF
    refine WP.disp1 (fun D hD => ?_)
    have e1 : Same H (upd (upd H D (.dK [])) D (.dK [(.inr (SX.S []), .int 0)])) := WP.same_disp hD
    have d1 : (upd (upd H D (.dK [])) D (.dK [(.inr (SX.S []), .int 0)])) D = some (.dK [(.inr (SX.S []), .int 0)]) := upd_same
    have nDI : D ≠ I := Ne.symm (ne_of_none hg.d hD)
    generalize upd (upd H D (.dK [])) D (.dK [(.inr (SX.S []), .int 0)]) = H1 at e1 d1 ⊢
    have hg1 := hg.same e1
    refine ⟨I, _, hg1.d, trivial, fun od => ?_⟩
    have g0 : ML.Grp K (upd (upd H1 I (.frz od (.dK (xs.map ML.ent)))) I (.dK (xs.map ML.ent))) (WP.ca mg "Item") I xs ms := hg1.keep (fun b o h _ => by
        by_cases z : b = I
        · rw [z, upd_same, ← hg1.d, ← h, z]
        · rw [upd_ne z, upd_ne z]; exact h) fun b us h => by
      rcases h with (h | ⟨o, h⟩) | h
      · have z : b ≠ I := fun z => by rw [z, hg1.d] at h; cases h
        exact .inl (.inl (by rw [upd_ne z, upd_ne z]; exact h))
      · have z : b ≠ I := fun z => by rw [z, hg1.d] at h; cases h
        exact .inl (.inr ⟨o, by rw [upd_ne z, upd_ne z]; exact h⟩)
      · exact .inr h
    have d2 : (upd H1 I (.frz od (.dK (xs.map ML.ent)))) D = some (.dK [(.inr (SX.S []), .int 0)]) := by rw [upd_ne nDI]; exact d1
    have hel : (xs.map ML.ent).length = xs.length := List.length_map ..
    k_updF
    refine ⟨I, od, _, rfl, upd_same, WP.for_items (d := I) (o := od) (kvs := xs.map ML.ent) (fun i σ' H' => ∃ (z2 z3 : Option V) (kvs : List (Key × V)), σ' = [some (.ref I), some (.ref D), z2, z3] ∧ H' I = some (.frz od (.dK (xs.map ML.ent))) ∧ (∀ b o, b ≠ I → (∀ x ∈ xs, b ≠ x.a) → H b = some o → H' b = some o) ∧
      H' D = some (.dK kvs) ∧ kvs.length ≤ 1 + 2 * i ∧ (∀ w, w = [] ∨ w ∈ (xs.take i).map (fun x => x.r.nm) → valV kvs (Sum.inr (SX.S w)) = some (.int ((ML.ofs xs ms i).1 w : Nat))) ∧ ML.Grp K (upd H' I (.dK (xs.map ML.ent))) (WP.ca mg "Item") I xs (ML.ofs xs ms i).2)
      ⟨_, _, _, rfl, upd_same, fun b o n _ h => by rw [upd_ne n]; exact e1 b o h, d2, Nat.le_refl _, fun w hw => by rw [List.take_zero] at hw; rw [hw.resolve_right (by simp)]; rfl, g0⟩ (fun i σ' H' _ h => by obtain ⟨_, _, _, _, h, _⟩ := h; exact h) ?_ ?_⟩
    · clear e1 d1 hg1 g0 d2
      rintro i key v σ' H2 N hk hN ⟨z2, z3, kvs, rfl, i2, e2, d2, l2, v2, g2⟩
      rw [List.getElem?_map] at hk
      obtain ⟨x, hx, hkx⟩ : ∃ x, xs[i]? = some x ∧ ML.ent x = (key, v) := by
        cases e : xs[i]? with
        | none => rw [e] at hk; cases hk
        | some x => rw [e] at hk; exact ⟨x, rfl, Option.some.inj hk⟩
      cases hkx
      have hxm := List.mem_of_getElem? hx
      have hxi := (List.getElem?_eq_some_iff.mp hx).1
      obtain ⟨htx, hnx⟩ := htm x hxm
      obtain ⟨m, hm⟩ : ∃ m, (ML.ofs xs ms i).2[i]? = some m := ⟨_, List.getElem?_eq_getElem (by rw [g2.len]; exact hxi)⟩
      have hms : m.sz ≤ 10 ^ 9 := by
        obtain ⟨m0, h0, h1, _⟩ := ML.ofs_sz xs ms i i m hm
        rw [h1]; exact hB m0 (List.mem_of_getElem? h0)
      have nNI : N ≠ I := fun z => by rw [z, i2] at hN; cases hN
      have n3 : (upd H2 N (.tup [kV (Sum.inr (SX.S x.r.nm)), .ref x.a])) N = some (.tup [kV (Sum.inr (SX.S x.r.nm)), .ref x.a]) := upd_same
      have e3 : Same H2 (upd H2 N (.tup [kV (Sum.inr (SX.S x.r.nm)), .ref x.a])) := WP.same_new hN
      have g3 := g2.lN (o := .tup [kV (Sum.inr (SX.S x.r.nm)), .ref x.a]) hN nNI
      generalize upd H2 N _ = H3 at n3 e3 g3 ⊢
      have i3 := e3 _ _ i2
      have d3 := e3 _ _ d2
      replace e2 : ∀ b o, b ≠ I → (∀ x ∈ xs, b ≠ x.a) → H b = some o → H3 b = some o := fun b o h1 h2 h => e3 _ _ (e2 b o h1 h2 h)
      clear e3 i2 d2 g2 hN
      refine WP.unT (SqT.of n3) rfl ?_
      clear n3
      k_updF
      have hxa := g3.lo hx hm
      have hp := v2 x.par (hpar i x hx)
      refine ⟨x.a, _, x.dx, _, _, rfl, hxa, B.k_Item.c, B.k_Item.n _ (by decide +kernel), ML.f_parent, ?_⟩
      refine ⟨D, _, rfl, MSt_gotS d3 hp, ?_⟩
      k_updF
      refine ⟨x.a, _, x.dx, _, rfl, hxa, B.k_Item.c, B.k_Item.n _ (by decide +kernel), ML.f_len, ?_⟩
      rw [ML.p_offset]
      have g4 := g3.lM hx hm ((ML.ofs xs ms i).1 x.par) m.sz
      have a4 : (upd H3 x.a (.ins (WP.ca mg "Item") x.dx (ML.flds x.r x.pz x.vz x.par ((ML.ofs xs ms i).1 x.par) m.sz x.c))) x.a = some (.ins (WP.ca mg "Item") x.dx (ML.flds x.r x.pz x.vz x.par ((ML.ofs xs ms i).1 x.par) m.sz x.c)) := upd_same
      have d4 : (upd H3 x.a (.ins (WP.ca mg "Item") x.dx (ML.flds x.r x.pz x.vz x.par ((ML.ofs xs ms i).1 x.par) m.sz x.c))) D = some (.dK kvs) := by rw [upd_ne (ne_of d3 hxa (by intro z; cases z))]; exact d3
      have i4 : (upd H3 x.a (.ins (WP.ca mg "Item") x.dx (ML.flds x.r x.pz x.vz x.par ((ML.ofs xs ms i).1 x.par) m.sz x.c))) I = some (.frz od (.dK (xs.map ML.ent))) := by rw [upd_ne (Ne.symm (g3.aI hx))]; exact i3
      have e4 : ∀ b o, b ≠ I → (∀ x ∈ xs, b ≠ x.a) → H b = some o → (upd H3 x.a (.ins (WP.ca mg "Item") x.dx (ML.flds x.r x.pz x.vz x.par ((ML.ofs xs ms i).1 x.par) m.sz x.c))) b = some o := fun b o h1 h2 h => by rw [upd_ne (h2 x hxm)]; exact e2 b o h1 h2 h
      generalize upd H3 x.a _ = H4 at g4 a4 d4 i4 e4 ⊢
      clear e2 d3 i3 g3 hxa
      have hmi : (ML.ofs xs ms i).2.set i ⟨(ML.ofs xs ms i).1 x.par, m.sz, m.ch⟩ = (ML.ofs xs ms (i + 1)).2 := by rw [ML.ofs_step hx hm]
      k_updF
      refine ⟨x.a, _, x.dx, _, _, rfl, a4, B.k_Item.c, B.k_Item.n _ (by decide +kernel), ML.f_offset, ?_⟩
      k_updF
      refine ⟨D, _, rfl, DPut.k (k := Sum.inr (SX.S x.r.nm)) d4 (by rw [sizeLine_eq]; omega), ?_⟩
      have g5 := g4.lD (l' := putK kvs (Sum.inr (SX.S x.r.nm)) (.int ((ML.ofs xs ms i).1 x.par : Nat))) d4 nDI
      have a5 : (upd H4 D (.dK (putK kvs (Sum.inr (SX.S x.r.nm)) (.int ((ML.ofs xs ms i).1 x.par : Nat))))) x.a = some (.ins (WP.ca mg "Item") x.dx (ML.flds x.r x.pz x.vz x.par ((ML.ofs xs ms i).1 x.par) m.sz x.c)) := by rw [upd_ne (ne_of a4 d4 (by intro z; cases z))]; exact a4
      have d5 : (upd H4 D (.dK (putK kvs (Sum.inr (SX.S x.r.nm)) (.int ((ML.ofs xs ms i).1 x.par : Nat))))) D = some (.dK (putK kvs (Sum.inr (SX.S x.r.nm)) (.int ((ML.ofs xs ms i).1 x.par : Nat)))) := upd_same
      have i5 : (upd H4 D (.dK (putK kvs (Sum.inr (SX.S x.r.nm)) (.int ((ML.ofs xs ms i).1 x.par : Nat))))) I = some (.frz od (.dK (xs.map ML.ent))) := by rw [upd_ne (Ne.symm nDI)]; exact i4
      have e5 : ∀ b o, b ≠ I → (∀ x ∈ xs, b ≠ x.a) → H b = some o → (upd H4 D (.dK (putK kvs (Sum.inr (SX.S x.r.nm)) (.int ((ML.ofs xs ms i).1 x.par : Nat))))) b = some o := fun b o h1 h2 h => by rw [upd_ne (fun z => by rw [z, hD] at h; cases h)]; exact e4 b o h1 h2 h
      generalize upd H4 D _ = H5 at g5 a5 d5 i5 e5 ⊢
      clear e4 d4 i4 g4 a4
      have lp := length_putK kvs (Sum.inr (SX.S x.r.nm)) (V.int ((ML.ofs xs ms i).1 x.par : Nat))
      k_updF
      refine ⟨x.a, _, x.dx, _, _, rfl, a5, B.k_Item.c, B.k_Item.n _ (by decide +kernel), ML.f_offset, ?_⟩
      k_updF
      refine ⟨x.a, _, x.dx, _, _, rfl, a5, B.k_Item.c, B.k_Item.n _ (by decide +kernel), ML.f_size, ?_⟩
      k_updF
      refine ⟨x.a, x.dx, x.c, x.pz, x.vz, x.r, x.par, (ML.ofs xs ms i).1 x.par, m.sz, rfl, a5, ?_⟩
      refine WP.iC (WP.Bt.w (a := 40) (b := 10) (by unfold WP.Bt; rw [Int.natAbs_natCast]; omega) (by unfold WP.Bt ML.tms; rw [Int.natAbs_natCast]; omega)) ?_
      k_updF
      refine ⟨x.a, _, x.dx, _, _, rfl, a5, B.k_Item.c, B.k_Item.n _ (by decide +kernel), ML.f_parent, ?_⟩
      rw [show (((ML.ofs xs ms i).1 x.par : Nat) : Int) + (m.sz : Int) * ((ML.tms x.r : Nat) : Int) = (((ML.ofs xs ms i).1 x.par + m.sz * ML.tms x.r : Nat) : Int) by rw [Int.natCast_add, Int.natCast_mul]]
      refine ⟨D, _, rfl, DPut.k (k := Sum.inr (SX.S x.par)) d5 (by rw [sizeLine_eq]; omega), ?_⟩
      have lp2 := length_putK (putK kvs (Sum.inr (SX.S x.r.nm)) (V.int ((ML.ofs xs ms i).1 x.par : Nat))) (Sum.inr (SX.S x.par)) (V.int ((ML.ofs xs ms i).1 x.par + m.sz * ML.tms x.r : Nat))
      refine ⟨_, _, _, rfl, by rw [upd_ne (Ne.symm nDI)]; exact i5, fun b o h1 h2 h => by rw [upd_ne (fun z => by rw [z, hD] at h; cases h)]; exact e5 b o h1 h2 h, upd_same, by omega, fun w hw => ?_, by rw [← hmi]; exact g5.lD d5 nDI⟩
      rw [valV_put, valV_put, ML.ofs_step hx hm]
      dsimp only
      by_cases c1 : w = x.par
      · rw [if_pos (ML.inr_S.mpr c1), if_pos c1]
      · rw [if_neg (fun z => c1 (ML.inr_S.mp z)), if_neg c1]
        by_cases c2 : w = x.r.nm
        · rw [if_pos (ML.inr_S.mpr c2), if_pos c2]
        · rw [if_neg (fun z => c2 (ML.inr_S.mp z)), if_neg c2]
          refine v2 w (hw.imp id fun z => ?_)
          rw [List.take_succ, hx, List.map_append] at z
          rcases List.mem_append.mp z with z | z
          · exact z
          · exact absurd (List.mem_singleton.mp z) c2
    rintro σ' H2 ⟨z2, z3, kvs, rfl, i2, e2, d2, l2, v2, g2⟩
    rw [hel] at v2 g2
    refine ⟨i2, ?_⟩
    k_updF
    refine ⟨D, _, rfl, MSt_gotS (by rw [upd_ne nDI]; exact d2) (v2 [] (.inl rfl)), ?_⟩
    exact k _ (fun b o h1 h2 h => by rw [upd_ne h1]; exact e2 b o h1 h2 h) g2
end
abbrev s_Layout___init__ : Stmt := inClass (top 21) 0
abbrev N_Layout___init__ : List Str := ["self", "entries"]
theorem sc_Layout___init__ : FnScope N_Layout___init__ ["self", "entries"] (defScope s_Layout___init__) := ⟨rfl, rfl, rfl, by decide +kernel, rfl, by decide +kernel, by decide +kernel⟩
def BDy (mg : WP.MG) (H : Hp) (y : Addr) (E : XK) (a b : V) : Prop := ∀ (d : Addr) (H' : Hp), (∀ b o, b ≠ y → H b = some o → H' b = some o) → H' d = some (.xd (BDf a b)) → E (.ref (WP.ca mg "BadData")) (some d) H'
def LayF (I : Addr) (n : Nat) : List (Str × V) := [("_items", .ref I), ("_size", .int (n : Int))]
def sp_Layout___init__ (K : PySem.W.Frag) (mg : WP.MG) : Sp := fun vs H Q E => ∃ (y dx E0 : Addr) (vs0 : List V) (rs : List ML.Row), vs = [.ref y, .ref E0] ∧ H y = some (.ins (WP.ca mg "Layout") dx []) ∧ WP.SqA K H E0 vs0 ∧ ML.RwA K H vs0 rs ∧ rs.length ≤ 100 ∧ (∀ r ∈ rs, ROk r) ∧
  (∀ (k : Nat) (r : ML.Row), rs[k]? = some r → ML.flt rs k r ≠ [] → (∀ (j : Nat) (r' : ML.Row), j < k → rs[j]? = some r' → ML.flt rs j r' = []) → BDy mg H y E (.str (SX.S (ML.flt rs k r))) (.str (SX.S r.nm))) ∧
  ((∀ (k : Nat) (r : ML.Row), rs[k]? = some r → ML.flt rs k r = []) → ∀ (xs : List ML.Itm) (ms : List ML.Mut), ML.Fresh rs xs ms → (xs.map fun x => x.r.nm).Nodup →
    (∀ (i j : Nat) (m : ML.Mut), (ML.szs xs ms i)[j]? = some m → m.sz ≤ 10 ^ 9) ∧ (4000 < ML.total xs ms → BDy mg H y E (.str (SX.S ML.SIZE)) (.str (SX.S []))) ∧
    (ML.total xs ms ≤ 4000 → ∀ (I : Addr) (H' : Hp), (∀ b o, b ≠ y → H b = some o → H' b = some o) → H' y = some (.ins (WP.ca mg "Layout") dx (LayF I (ML.total xs ms))) → ML.Grp K H' (WP.ca mg "Item") I xs (ML.ofs xs (ML.szs xs ms xs.length) xs.length).2 → (∀ x ∈ xs, H x.a = none ∧ H x.c = none) → H I = none → Q .non H'))
section
variable {P : Program} {w : World} {K : PySem.W.Frag} {mg : Str → Option Value} {base : Heap}
theorem ok_Layout___init__ {f : Addr} {fd : FuncData} (F : Fun K "__init__" "Layout.__init__" s_Layout___init__ f fd) (B : Blt w K mg) (c__items_of : WP.Callee P w K mg base (L2.CX P w) 6 "_items_of" ["entries"] (sp__items_of K mg)) (c__add_sizes : WP.Callee P w K mg base CX0 2 "_add_sizes" ["items"] (sp__add_sizes K mg)) (c__add_offsets : WP.Callee P w K mg base CX0 2 "_add_offsets" ["items"] (sp__add_offsets K mg)) (c_BadData___init__ : WP.CalleeE P w K mg base CX0 1 "BadData" ["self", "reason", "name"] (sp_BadData___init__ K mg)) : FnOk P w K mg base (L2.CX P w) 7 f fd ["self", "entries"] (sp_Layout___init__ K mg) := by
  refine F.okX sc_Layout___init__ (fun vs H Q E h => ?_) (fun cdv A outer s H vs Q E hr h => ?_)
  · first | (obtain ⟨_, rfl, _⟩ := h; rfl) | (obtain ⟨_, _, rfl, _⟩ := h; rfl) | (obtain ⟨_, _, _, rfl, _⟩ := h; rfl) | (obtain ⟨_, _, _, _, rfl, _⟩ := h; rfl) | (obtain ⟨_, _, _, _, _, rfl, _⟩ := h; rfl) | (obtain ⟨_, _, _, _, _, _, rfl, _⟩ := h; rfl) | (obtain ⟨_, _, _, _, _, _, _, rfl, _⟩ := h; rfl) | (obtain ⟨_, _, _, _, _, _, _, _, rfl, _⟩ := h; rfl) | (obtain ⟨rfl, _⟩ := h; rfl)
  · obtain ⟨y, dx, E0, vs0, rs, rfl, hy, hE, hR0, hl, hok, kF, kQ⟩ := h
    refine ⟨_, (pss_cons (ps_fld (pv 0) (WP.pe_callC c__items_of hr rfl (WP.passX rfl rfl rfl rfl) (WP.pa_consN (pe_callTy WP.c_listOf (by rfl) B.b_list (by decide +kernel) (WP.pa_consN (pv 1) pa_nil)) pa_nil)) rfl)
      (pss_cons (ps_expr (WP.pe_callC c__add_sizes hr rfl pass0 (WP.pa_consN (pe_fld (pv 0) rfl) pa_nil)))
      (pss_cons (ps_fld (pv 0) (WP.pe_callC c__add_offsets hr rfl pass0 (WP.pa_consN (pe_fld (pv 0) rfl) pa_nil)) rfl)
      (pss_one (ps_if (pt_cmpR op_gt (pe_fld (pv 0) rfl) (WP.pe_const (by rfl) B.c_MOST_STORAGE) (nomark _)) (pss_one (WP.ps_raiseE rfl (takes_of rfl rfl rfl rfl) B.xi_BadData c_BadData___init__ (hr.mono (by decide)) pass0 (by rfl) (WP.pa_consN (WP.pe_strL [115, 105, 122, 101] (by decide +kernel)) (WP.pa_consN (WP.pe_strL [] (by decide +kernel)) pa_nil)))) pss_nil))))), ?_⟩
    k_updF
    refine ⟨E0, vs0, rfl, hE, fun L hL => ?_⟩
    have e1 : Same H (upd H L (.lst vs0)) := WP.same_new hL
    have l1 : (upd H L (.lst vs0)) L = some (.lst vs0) := upd_same
    generalize upd H L _ = H1 at e1 l1 ⊢
    have y1 := e1 _ _ hy
    k_updF
    refine ⟨L, vs0, rs, rfl, SqL.of l1, hR0.keep (fun b us h => WP.sqt e1 h), hl, hok, fun k r h1 h2 h3 d H' e hd => kF k r h1 h2 h3 d H' (fun b o _ h => e _ _ (e1 _ _ h)) hd, fun hno I xs ms H2 e2 hI hg hf hnew => ?_⟩
    obtain ⟨hB, hS, hK⟩ := kQ hno xs ms hf hg.nm
    have lxs : xs.length ≤ 100 := by rw [hf.len]; exact hl
    have hrx : ∀ x ∈ xs, ROk x.r := fun x hx => hok _ (by rw [← hf.r]; exact List.mem_map.mpr ⟨x, hx, rfl⟩)
    have hxy : ∀ x ∈ xs, x.a ≠ y := fun x hx z => by have := (hnew x hx).1; rw [z, y1] at this; cases this
    have hxH : ∀ x ∈ xs, H x.a = none ∧ H x.c = none := fun x hx => ⟨e1.free (hnew x hx).1, e1.free (hnew x hx).2⟩
    have hIH : H I = none := e1.free hI
    have y2 := e2 _ _ y1
    replace e2 := e1.trans e2
    clear e1 l1 y1 hL hnew hI
    k_updF
    refine ⟨y, _, dx, _, rfl, y2, B.k_Layout.c, B.k_Layout.n _ (by decide +kernel), by decide, ?_⟩
    have hg3 := hg.off (u := .ins (WP.ca mg "Layout") dx (putF "_items" (.ref I) [])) y2 hxy
    have y3 : (upd H2 y (.ins (WP.ca mg "Layout") dx (putF "_items" (.ref I) []))) y = some (.ins (WP.ca mg "Layout") dx [("_items", .ref I)]) := upd_same
    have e3 : ∀ b o, b ≠ y → H b = some o → (upd H2 y (.ins (WP.ca mg "Layout") dx (putF "_items" (.ref I) []))) b = some o := fun b o n h => by rw [upd_ne n]; exact e2 _ _ h
    generalize upd H2 y _ = H3 at hg3 y3 e3 ⊢
    clear e2 y2 hg
    k_updF
    refine ⟨y, _, dx, _, _, rfl, y3, B.k_Layout.c, B.k_Layout.n _ (by decide +kernel), rfl, ?_⟩
    k_updF
    refine ⟨I, xs, ms, rfl, hg3, lxs, fun x hx => hf.parIn hx, fun x hx => (hrx x hx).tm, hB, fun H4 e4 hg4 => ?_⟩
    have y4 := e4 _ _ (fun x hx z => hxy x hx z.symm) y3
    replace e4 : ∀ b o, b ≠ y → H b = some o → H4 b = some o := fun b o n h => e4 _ _ (fun x hx z => by rw [z, (hxH x hx).1] at h; cases h) (e3 b o n h)
    clear e3 y3 hg3
    k_updF
    refine ⟨y, _, dx, _, _, rfl, y4, B.k_Layout.c, B.k_Layout.n _ (by decide +kernel), rfl, ?_⟩
    k_updF
    refine ⟨I, xs, _, rfl, hg4, lxs, fun k x hk => hf.parTk hk, fun x hx => ⟨(hrx x hx).tm, (hrx x hx).ne⟩, fun m hm => by obtain ⟨j, hj⟩ := List.getElem?_of_mem hm; exact hB _ j m hj, fun H5 e5 hg5 => ?_⟩
    have nyI : y ≠ I := fun z => by rw [z, hIH] at hy; cases hy
    have y5 := e5 _ _ nyI (fun x hx z => hxy x hx z.symm) y4
    replace e5 : ∀ b o, b ≠ y → H b = some o → H5 b = some o := fun b o n h => e5 _ _ (fun z => by rw [z, hIH] at h; cases h) (fun x hx z => by rw [z, (hxH x hx).1] at h; cases h) (e4 b o n h)
    clear e4 y4 hg4
    k_updF
    refine ⟨y, _, dx, _, rfl, y5, B.k_Layout.c, B.k_Layout.n _ (by decide +kernel), by show 1 < 1000; decide, ?_⟩
    generalize hG : upd H5 y _ = H6
    have hg6 := hG ▸ hg5.off y5 hxy
    have y6 : H6 y = some (.ins (WP.ca mg "Layout") dx (LayF I (ML.total xs ms))) := by rw [← hG, upd_same]; rfl
    have e6 : ∀ b o, b ≠ y → H b = some o → H6 b = some o := fun b o n h => by rw [← hG, upd_ne n]; exact e5 b o n h
    clear e5 y5 hg5 hG
    k_updF
    refine ⟨y, _, dx, _, _, rfl, y6, B.k_Layout.c, B.k_Layout.n _ (by decide +kernel), rfl, ?_⟩
    k_updF
    refine WP.br (fun c => ?_) (fun c => ?_)
    · refine WP.mko ?_
      k_updF
      exact raise_BD fun d H' e hd => hS (by omega) d H' (fun b o n h => e _ _ (e6 b o n h)) hd
    · k_updF
      exact hK (by omega) I H6 e6 y6 hg6 hxH hIH
end
abbrev s__law_told : Stmt := top 45
abbrev N__law_told : List Str := ["rows", "e"]
theorem sc__law_told : FnScope N__law_told ["rows"] (defScope s__law_told) := ⟨rfl, rfl, rfl, by decide +kernel, rfl, by decide +kernel, by decide +kernel⟩
theorem LOk.rok {r : ML.Row} (h : LOk r) : ROk r := ⟨by have := h.nl; omega, h.ne, h.nc, fun x e => ⟨(h.pc x e).1, by have := (h.pc x e).2; omega⟩, by have := h.tm; omega, by have := h.lv; omega, fun t e => ⟨by have := (h.txt t e).1; omega, (h.txt t e).2⟩, fun u s e => ⟨Nat.le_trans (h.dec u s e).1 (by decide), by have := (h.dec u s e).2; omega⟩⟩
def sp__law_told (K : PySem.W.Frag) (mg : WP.MG) : Sp := fun vs H Q _ => ∃ (a : Addr) (xs : List V) (rs : List ML.Row), vs = [.ref a] ∧ H a = some (.lst xs) ∧ ML.RwA K H xs rs ∧ rs.length ≤ 100 ∧ (∀ r ∈ rs, ROk r) ∧
  (∀ (k : Nat) (r : ML.Row), rs[k]? = some r → ML.flt rs k r ≠ [] → ML.okTo rs k → WP.RetT [.str (SX.S (ML.flt rs k r)), .str (SX.S r.nm)] H Q) ∧
  (ML.okTo rs rs.length → ML.wsum rs ≤ 10 ^ 9 ∧ (4000 < ML.wsum rs → WP.RetT [.str (SX.S ML.SIZE), .str (SX.S [])] H Q) ∧ (ML.wsum rs ≤ 4000 → WP.RetT [.str (SX.S []), .str (SX.S [])] H Q))
section
variable {P : Program} {w : World} {K : PySem.W.Frag} {mg : Str → Option Value} {base : Heap}
theorem ok__law_told {f : Addr} {fd : FuncData} (F : Fun K "_law_told" "_law_told" s__law_told f fd) (B : Blt w K mg) (c_Layout___init__ : WP.CalleeI P w K mg base (L2.CX P w) 7 "Layout" ["self", "entries"] (sp_Layout___init__ K mg)) : FnOk P w K mg base CX0 9 f fd ["rows"] (sp__law_told K mg) := by
  obtain ⟨f_Layout___init__, d_Layout___init__, F_Layout___init__, M_Layout___init__, b_Layout___init__⟩ := c_Layout___init__.ex
  refine F.ok sc__law_told (fun vs H Q E h => ?_) (fun cdv A outer s H vs Q E hr h => ?_)
  · first | (obtain ⟨_, rfl, _⟩ := h; rfl) | (obtain ⟨_, _, rfl, _⟩ := h; rfl) | (obtain ⟨_, _, _, rfl, _⟩ := h; rfl) | (obtain ⟨_, _, _, _, rfl, _⟩ := h; rfl) | (obtain ⟨_, _, _, _, _, rfl, _⟩ := h; rfl) | (obtain ⟨_, _, _, _, _, _, rfl, _⟩ := h; rfl) | (obtain ⟨_, _, _, _, _, _, _, rfl, _⟩ := h; rfl) | (obtain ⟨_, _, _, _, _, _, _, _, rfl, _⟩ := h; rfl) | (obtain ⟨rfl, _⟩ := h; rfl)
  · obtain ⟨a, xs, rs, rfl, hy, hR, hl, hok, kF, kQ⟩ := h
    refine ⟨_, (pss_cons (ps_try_as (i := 1) (tb := fun W => (tDrop (tMake (WP.ca mg "Layout") (sp_Layout___init__ K mg) [] (fun cls d H => ∀ σ : L2.St, σ.length = 2 → W cls d σ H) (tCons (tVar 0) tNil)))) (ts := fun a cls d => (tRet (tTup (tCons (tXf a cls d (WP.ca mg "BadData") "reason" (tVar 1)) (tCons (tXf a cls d (WP.ca mg "BadData") "name" (tVar 1)) tNil))))) (Wout := (fun _ _ _ _ => False)) rfl rfl sc__law_told.nd rfl rfl ⟨rfl, by decide, Or.inl B.xi_BadData.m⟩ takes0
        (fun W pn xe tk _ => (pss_one (ps_expr (pe_make M_Layout___init__ F_Layout___init__ (hr.mono (by decide)) rfl B.k_Layout.m b_Layout___init__ .nil (WP.passL (n := 2) tk rfl) (WP.pa_consN (pv 0) pa_nil)))))
        (fun a oe cls d pn hz hf => (pss_one (ps_ret (pe_tup (WP.pa_consN (pe_xf B.xi_BadData.x (B.xi_BadData.n _ (by decide +kernel)) hz hf (pv 1)) (WP.pa_consN (pe_xf B.xi_BadData.x (B.xi_BadData.n _ (by decide +kernel)) hz hf (pv 1)) pa_nil)))))))
      (pss_one (ps_ret (pe_tup (WP.pa_consN (WP.pe_strL [] (by decide +kernel)) (WP.pa_consN (WP.pe_strL [] (by decide +kernel)) pa_nil)))))), ?_⟩
    k_updF
    intro x dx hx hdx ndx
    have nxd : x ≠ dx := fun z => ndx z.symm
    have e1 : Same H (upd (upd H dx (.own x)) x (.ins (WP.ca mg "Layout") dx [])) := fun b o h => by rw [upd_ne (fun z => by rw [z, hx] at h; cases h), upd_ne (fun z => by rw [z, hdx] at h; cases h)]; exact h
    have y1 : (upd (upd H dx (.own x)) x (.ins (WP.ca mg "Layout") dx [])) x = some (.ins (WP.ca mg "Layout") dx []) := upd_same
    generalize upd _ x _ = H1 at e1 y1 ⊢
    have sk : ∀ H' : Hp, (∀ b o, b ≠ x → H1 b = some o → H' b = some o) → Same H H' := fun H' k b o h => k b o (fun z => by rw [z, hx] at h; cases h) (e1 b o h)
    refine ⟨x, dx, a, xs, rs, rfl, y1, .inl (SqL.of (e1 _ _ hy)), hR.keep (fun b us h => WP.sqt e1 h), hl, hok, fun k r h1 h2 h3 => ?_, fun hno zs ms hf hnd => ?_⟩
    · intro d H' e hd σ hσ
      refine ⟨true, B.xi_BadData.catches B.s_BadData_BadData, fun _ a na => ?_, fun z => Bool.noConfusion z⟩
      obtain ⟨s0, s1, rfl⟩ : ∃ s0 s1, σ = [s0, s1] := by
        match σ, hσ with
        | [s0, s1], _ => exact ⟨s0, s1, rfl⟩
      refine ⟨.ref a, rfl, rfl, rfl, d, _, _, rfl, hd, rfl, ?_⟩
      refine ⟨.ref a, rfl, rfl, rfl, d, _, _, rfl, hd, rfl, ?_⟩
      refine ⟨WP.sz2, fun p hp => ?_⟩
      exact (kF k r h1 h2 fun j r' a b => h3 j r' a b) p _ ((sk H' e).trans (WP.same_new hp)) upd_same
    obtain ⟨w1, w2, w3⟩ := kQ fun j r _ h => hno j r h
    obtain ⟨t1, t2⟩ := ML.total_sum hf hnd (fun r h => (hok r h).ne)
    rw [t1]
    refine ⟨fun i j m h => Nat.le_trans (t2 i j m h) w1, fun c => ?_, fun c I H' e hx2 _ _ _ => ⟨rfl, ?_⟩⟩
    · intro d H' e hd σ hσ
      refine ⟨true, B.xi_BadData.catches B.s_BadData_BadData, fun _ a na => ?_, fun z => Bool.noConfusion z⟩
      obtain ⟨s0, s1, rfl⟩ : ∃ s0 s1, σ = [s0, s1] := by
        match σ, hσ with
        | [s0, s1], _ => exact ⟨s0, s1, rfl⟩
      refine ⟨.ref a, rfl, rfl, rfl, d, _, _, rfl, hd, rfl, ?_⟩
      refine ⟨.ref a, rfl, rfl, rfl, d, _, _, rfl, hd, rfl, ?_⟩
      refine ⟨WP.sz2, fun p hp => ?_⟩
      exact (w2 c) p _ ((sk H' e).trans (WP.same_new hp)) upd_same
    k_updF
    refine ⟨WP.sz2, ?_⟩
    exact (w3 c).new (sk H' e)
end
abbrev s__law_around : Stmt := top 42
abbrev N__law_around : List Str := ["rows", "at", "found", "level", "k", "row"]
theorem sc__law_around : FnScope N__law_around ["rows", "at"] (defScope s__law_around) := ⟨rfl, rfl, rfl, by decide +kernel, rfl, by decide +kernel, by decide +kernel⟩
def sp__law_around (K : PySem.W.Frag) (mg : WP.MG) : Sp := fun vs H Q _ => ∃ (a : Addr) (at' : Nat) (xs : List V) (rs : List ML.Row) (r : ML.Row), vs = [.ref a, .int (at' : Int)] ∧ H a = some (.lst xs) ∧ ML.RwA K H xs rs ∧ rs[at']? = some r ∧ rs.length ≤ 40 ∧
  ∀ (p : Addr) (ys : List V) (H' : Hp), Same H H' → H' p = some (.lst ys) → ML.RwA K H' ys (ML.aroundF rs at' r.lv) → Q (.ref p) H'
section
variable {P : Program} {w : World} {K : PySem.W.Frag} {mg : Str → Option Value} {base : Heap}
theorem ok__law_around {f : Addr} {fd : FuncData} (F : Fun K "_law_around" "_law_around" s__law_around f fd) (B : Blt w K mg)  : FnOk P w K mg base CX0 1 f fd ["rows", "at"] (sp__law_around K mg) := by
  refine F.ok sc__law_around (fun vs H Q E h => ?_) (fun cdv A outer s H vs Q E hr h => ?_)
  · first | (obtain ⟨_, rfl, _⟩ := h; rfl) | (obtain ⟨_, _, rfl, _⟩ := h; rfl) | (obtain ⟨_, _, _, rfl, _⟩ := h; rfl) | (obtain ⟨_, _, _, _, rfl, _⟩ := h; rfl) | (obtain ⟨_, _, _, _, _, rfl, _⟩ := h; rfl) | (obtain ⟨_, _, _, _, _, _, rfl, _⟩ := h; rfl) | (obtain ⟨_, _, _, _, _, _, _, rfl, _⟩ := h; rfl) | (obtain ⟨_, _, _, _, _, _, _, _, rfl, _⟩ := h; rfl) | (obtain ⟨rfl, _⟩ := h; rfl)
  · obtain ⟨a, m, xs, rs, r, rfl, hy, hR, hr, hl, k⟩ := h
    refine ⟨_, (pss_cons (ps_set (i := 2) sc__law_around.nd rfl (Or.inl rfl) (pe_lst pa_nil))
      (pss_cons (ps_set (i := 3) sc__law_around.nd rfl (Or.inl rfl) (pe_ix ix_tup (pe_ix ix_list (pv 0) (pv 1) (fun _ _ => rfl)) pe_int (fun _ _ => rfl)))
      (pss_cons (ps_for PassesOwn.never rfl (pi_range1 rfl B.b_range (WP.pa_consN (pv 1) pa_nil)) (pg_name (i := 4) sc__law_around.nd rfl (Or.inl rfl)) (pss_cons (ps_set (i := 5) sc__law_around.nd rfl (Or.inl rfl) (pe_ix ix_list (pv 0) (pe_op op_sub (pe_op op_sub (pv 1) pe_int) (pv 4)) (fun _ _ => rfl)))
      (pss_one (ps_if (pt_cmpR op_lt (pe_ix ix_tup (pv 5) pe_int (fun _ _ => rfl)) (pv 3) (nomark _)) (pss_cons (ps_expr (pe_bm PySem.F.plainAttrs_list PySem.F.slot_list_append PySem.F.type_list_append mt_append (pv 2) (WP.pa_consN (pv 5) pa_nil)))
      (pss_one (ps_set (i := 3) sc__law_around.nd rfl (Or.inl rfl) (pe_ix ix_tup (pv 5) pe_int (fun _ _ => rfl))))) pss_nil))))
      (pss_one (ps_ret (pv 2)))))), ?_⟩
    have lx := hR.1
    have hm := (List.getElem?_eq_some_iff.mp hr).1
    k_updF
    refine ⟨Nat.zero_le _, fun D hD => ?_⟩
    obtain ⟨v, hv, b, pv, vv, rfl, hb, _, _⟩ := hR.at hr
    have e0 : Same H (upd H D (.lst [])) := WP.same_new hD
    have y0 : (upd H D (.lst [])) D = some (.lst []) := upd_same
    generalize upd H D _ = H0 at e0 y0 ⊢
    k_updF
    refine WP.ixL (SqL.of (e0 _ _ hy)) (atI_nat hv) ?_
    k_updF
    refine WP.ixT (WP.sqt e0 hb) WP.at0 ?_
    k_updF
    refine ⟨_, rfl, by omega, by omega, for_range (lo := 0) (n := m) (fun i σ' H' => ∃ (z1 z2 : Option V) (lv : Nat) (ys : List V) (qs : List ML.Row), σ' = [some (.ref a), some (.int (m : Int)), some (.ref D), some (.int (lv : Int)), z1, z2] ∧ Same H H' ∧ H' D = some (.lst ys) ∧ ML.RwA K H' ys qs ∧ qs.length ≤ i ∧ qs ++ ML.aroundF rs (m - i) lv = ML.aroundF rs m r.lv)
      ⟨none, none, r.lv, [], [], rfl, e0, y0, ML.All2.nil, Nat.le_refl _, rfl⟩ ?_ ?_⟩
    · rintro i σ' H' hi ⟨z1, z2, lv, ys, qs, rfl, e, y, R, ln, hE⟩
      obtain ⟨j, hj⟩ : ∃ j, m - i = j + 1 := ⟨m - i - 1, by omega⟩
      rw [hj] at hE
      obtain ⟨q, hq⟩ : ∃ q, rs[j]? = some q := ⟨_, List.getElem?_eq_getElem (by omega)⟩
      obtain ⟨u, hu, hrow⟩ := hR.at hq
      have hrow2 := hrow.keep fun b us h => WP.sqt e h
      obtain ⟨b2, pu, vu, rfl, hb2, _, _⟩ := hrow
      k_updF
      rw [show (m : Int) - 1 - (0 + (i : Int)) = (j : Int) by omega]
      refine WP.ixL (SqL.of (e _ _ hy)) (atI_nat hu) ?_
      k_updF
      refine WP.ixT (WP.sqt e hb2) WP.at0 ?_
      k_updF
      have hA : ML.aroundF rs (j + 1) lv = if q.lv < lv then q :: ML.aroundF rs j q.lv else ML.aroundF rs j lv := by
        show (match rs[j]? with | some r => if r.lv < lv then r :: ML.aroundF rs j r.lv else ML.aroundF rs j lv | none => ML.aroundF rs j lv) = _
        rw [hq]
      rw [hA] at hE
      refine WP.br (fun c => ?_) (fun c => ?_)
      · rw [if_pos (by omega)] at hE
        k_updF
        refine ⟨.inl ⟨rfl, _, SqL.of y⟩, ?_⟩
        k_updF
        refine WP.appL y (by rw [sizeLine_eq]; have := R.1; omega) ?_
        have kp : ∀ b us, SqT K H' b us → SqT K (upd H' D (.lst (ys ++ [.ref b2]))) b us := fun b us h => ML.sqt_lst y h
        k_updF
        refine WP.ixT (kp _ _ (WP.sqt e hb2)) WP.at0 ?_
        k_updF
        exact ⟨_, _, _, _, qs ++ [q], rfl, WP.same_mut e hD, upd_same, ML.All2.app (ML.RwA.keep kp R) (.one (hrow2.keep kp)), by rw [List.length_append]; show _ + 1 ≤ _; omega, by rw [List.append_assoc, show m - (i + 1) = j by omega]; exact hE⟩
      · rw [if_neg (by omega)] at hE
        k_updF
        exact ⟨_, _, _, _, qs, rfl, e, y, R, by omega, by rw [show m - (i + 1) = j by omega]; exact hE⟩
    rintro σ' H' ⟨z1, z2, lv, ys, qs, rfl, e, y, R, ln, hE⟩
    k_updF
    rw [Nat.sub_self, show ML.aroundF rs 0 lv = [] from rfl, List.append_nil] at hE
    rw [← hE] at k
    exact k D ys H' e y R
end
abbrev s__law_level : Stmt := top 43
abbrev N__law_level : List Str := ["rows", "at", "around", "parent", "first", "k"]
theorem sc__law_level : FnScope N__law_level ["rows", "at"] (defScope s__law_level) := ⟨rfl, rfl, rfl, by decide +kernel, rfl, by decide +kernel, by decide +kernel⟩
theorem LOk.shp {r : ML.Row} (h : LOk r) : SeqAt.shaped r.d = true := ML.Row.sh h.nc (fun x e => (h.pc x e).1) fun t e => (h.txt t e).2
theorem LOk.rfl' {r : ML.Row} (h : LOk r) : PyData.eqv r.d r.d = true := SeqAt.eqv_refl _ (ML.Row.lay h.nc (fun x e => (h.pc x e).1) fun t e => (h.txt t e).2)
def sp__law_level (K : PySem.W.Frag) (mg : WP.MG) : Sp := fun vs H Q _ => ∃ (a : Addr) (at' : Nat) (xs : List V) (rs : List ML.Row) (r : ML.Row), vs = [.ref a, .int (at' : Int)] ∧ H a = some (.lst xs) ∧ ML.RwA K H xs rs ∧ rs[at']? = some r ∧ rs.length ≤ 40 ∧ (∀ r ∈ rs, LOk r) ∧
  ∀ H', Same H H' → Q (.int ((ML.lawLv (ML.lvs rs) at' r.lv : Nat) : Int)) H'
section
variable {P : Program} {w : World} {K : PySem.W.Frag} {mg : Str → Option Value} {base : Heap}
theorem ok__law_level {f : Addr} {fd : FuncData} (F : Fun K "_law_level" "_law_level" s__law_level f fd) (B : Blt w K mg) (c__law_around : WP.Callee P w K mg base CX0 1 "_law_around" ["rows", "at"] (sp__law_around K mg)) : FnOk P w K mg base CX0 2 f fd ["rows", "at"] (sp__law_level K mg) := by
  refine F.ok sc__law_level (fun vs H Q E h => ?_) (fun cdv A outer s H vs Q E hr h => ?_)
  · first | (obtain ⟨_, rfl, _⟩ := h; rfl) | (obtain ⟨_, _, rfl, _⟩ := h; rfl) | (obtain ⟨_, _, _, rfl, _⟩ := h; rfl) | (obtain ⟨_, _, _, _, rfl, _⟩ := h; rfl) | (obtain ⟨_, _, _, _, _, rfl, _⟩ := h; rfl) | (obtain ⟨_, _, _, _, _, _, rfl, _⟩ := h; rfl) | (obtain ⟨_, _, _, _, _, _, _, rfl, _⟩ := h; rfl) | (obtain ⟨_, _, _, _, _, _, _, _, rfl, _⟩ := h; rfl) | (obtain ⟨rfl, _⟩ := h; rfl)
  · obtain ⟨a, m, xs, rs, r, rfl, hy, hR, hg, hl, hok, k⟩ := h
    refine ⟨_, (pss_cons (ps_set (i := 2) sc__law_level.nd rfl (Or.inl rfl) (WP.pe_callC c__law_around hr rfl pass0 (WP.pa_consN (pv 0) (WP.pa_consN (pv 1) pa_nil))))
      (pss_cons (ps_if (pt_cmpR op_eq (pe_callB WP.c_len (by rfl) B.b_len (by decide +kernel) (WP.pa_consN (pv 2) pa_nil)) pe_int (nomark _)) (pss_one (ps_ret pe_int)) pss_nil)
      (pss_cons (ps_set (i := 3) sc__law_level.nd rfl (Or.inl rfl) (pe_ix ix_list (pv 2) pe_int (fun _ _ => rfl)))
      (pss_cons (ps_set (i := 4) sc__law_level.nd rfl (Or.inl rfl) pe_int)
      (pss_cons (ps_for PassesOwn.never rfl (pi_range1 rfl B.b_range (WP.pa_consN (pv 1) pa_nil)) (pg_name (i := 5) sc__law_level.nd rfl (Or.inl rfl)) (pss_one (ps_if (PW.pt (pw_and (pt_cmpR (op_eqD hr.units) (pe_ix ix_list (pv 0) (pe_op op_sub (pe_op op_sub (pv 1) pe_int) (pv 5)) (fun _ _ => rfl)) (pv 3) (nomark _)) (pw_and (pt_cmpR op_eq (pv 4) pe_int (nomark _)) (pw_and1 (pt_cmpR op_lt (pe_ix ix_tup (pe_ix ix_list (pv 0) (pe_op op_sub (pe_op op_sub (pv 1) pe_int) (pv 5)) (fun _ _ => rfl)) pe_int (fun _ _ => rfl)) (pe_ix ix_tup (pe_ix ix_list (pv 0) (pv 1) (fun _ _ => rfl)) pe_int (fun _ _ => rfl)) (nomark _)))))) (pss_one (ps_set (i := 4) sc__law_level.nd rfl (Or.inl rfl) (pe_op op_sub (pv 1) (pv 5)))) pss_nil)))
      (pss_one (ps_ret (pe_ix ix_tup (pe_ix ix_list (pv 0) (pv 4) (fun _ _ => rfl)) pe_int (fun _ _ => rfl))))))))), ?_⟩
    have lx := hR.1
    have hm := (List.getElem?_eq_some_iff.mp hg).1
    k_updF
    refine ⟨a, m, xs, rs, r, rfl, hy, hR, hg, hl, fun p0 ys H1 e1 hp hR1 => ?_⟩
    have hhd := ML.around_head (rs := rs) (k := m) (lv := r.lv) (by omega)
    k_updF
    refine WP.lenL (SqL.of hp) ?_
    k_updF
    cases en : ML.np (ML.lvs rs) m r.lv with
    | none =>
      rw [en] at hhd
      have hnil : ML.aroundF rs m r.lv = [] := List.head?_eq_none_iff.mp hhd
      rw [hnil] at hR1
      have hl0 : ys.length = 0 := hR1.1
      rw [hl0]
      refine WP.brT rfl ?_
      k_updF
      have z := k H1 e1
      unfold ML.lawLv at z
      rw [en] at z
      exact z
    | some p =>
      rw [en] at hhd
      obtain ⟨p1, p2, p3⟩ := ML.np_some en
      have eq := List.getElem?_eq_getElem (l := rs) (i := p) (by omega)
      generalize rs[p] = q at eq
      rw [Option.bind_some, eq] at hhd
      obtain ⟨t, ht⟩ : ∃ t, ML.aroundF rs m r.lv = q :: t := List.head?_eq_some_iff.mp hhd
      rw [ht] at hR1
      obtain ⟨v0, hv0, hrow0⟩ := hR1.at (i := 0) rfl
      have lys : ys.length ≠ 0 := fun z => by have := hR1.1; rw [z] at this; cases this
      have hqok := hok q (List.mem_of_getElem? eq)
      obtain ⟨ur, hur, br, pvr, vvr, rfl, hbr, _, _⟩ := hR.at hg
      refine WP.brF (decide_eq_false (by omega)) ?_
      k_updF
      refine WP.ixL (SqL.of hp) (atI_nat (j := 0) hv0) ?_
      k_updF
      refine ⟨_, rfl, by omega, by omega, for_range (lo := 0) (n := m) (fun i σ' H' => H' = H1 ∧ ∃ z : Option V, σ' = [some (.ref a), some (.int (m : Int)), some (.ref p0), some v0, some (.int (((if m - i ≤ p then p + 1 else 0) : Nat) : Int)), z]) ⟨rfl, none, by rw [if_neg (by omega)]; rfl⟩ ?_ ?_⟩
      · rintro i σ' H' hi ⟨rfl, z, rfl⟩
        obtain ⟨j, hj⟩ : ∃ j, m - i = j + 1 := ⟨m - i - 1, by omega⟩
        have hj2 : m - (i + 1) = j := by omega
        obtain ⟨o, ho⟩ : ∃ o, rs[j]? = some o := ⟨_, List.getElem?_eq_getElem (by omega)⟩
        obtain ⟨u, hu, hrow⟩ := hR.at ho
        have hook := hok o (List.mem_of_getElem? ho)
        have hrow2 := hrow.keep fun b us h => WP.sqt e1 h
        obtain ⟨b2, pu, vu, rfl, hb2, _, _⟩ := hrow
        rw [hj2]
        rw [hj]
        k_updF
        rw [show (m : Int) - 1 - (0 + (i : Int)) = (j : Int) by omega]
        refine WP.ixL (SqL.of (e1 _ _ hy)) (atI_nat hu) ?_
        k_updF
        refine WP.eqD hrow2.dp hrow0.dp ?_ hook.shp hqok.shp
        k_updF
        by_cases c1 : j + 1 ≤ p
        · rw [if_pos c1, if_pos (show j ≤ p by omega)]
          cases hc : PyData.eqv o.d q.d with
          | true =>
            refine WP.brT rfl ?_
            k_updF
            refine WP.brF (decide_eq_false (by omega)) ?_
            refine WP.brF rfl ?_
            k_updF
            exact ⟨rfl, _, rfl⟩
          | false =>
            refine WP.brF rfl ?_
            refine WP.brF rfl ?_
            k_updF
            exact ⟨rfl, _, rfl⟩
        · rw [if_neg c1]
          by_cases c2 : j = p
          · subst c2
            rw [ho] at eq
            cases eq
            rw [hook.rfl', if_pos (Nat.le_refl _)]
            refine WP.brT rfl ?_
            k_updF
            refine WP.brT rfl ?_
            k_updF
            rw [show (m : Int) - 1 - (0 + (i : Int)) = (j : Int) by omega]
            refine WP.ixL (SqL.of (e1 _ _ hy)) (atI_nat hu) ?_
            k_updF
            refine WP.ixT (WP.sqt e1 hb2) WP.at0 ?_
            k_updF
            refine WP.ixL (SqL.of (e1 _ _ hy)) (atI_nat hur) ?_
            k_updF
            refine WP.ixT (WP.sqt e1 hbr) WP.at0 ?_
            k_updF
            rw [ML.lvs_at ho] at p2
            refine WP.brT (decide_eq_true (by omega)) ?_
            k_updF
            exact ⟨rfl, _, by rw [show (m : Int) - (0 + (i : Int)) = ((j + 1 : Nat) : Int) by omega]; rfl⟩
          · rw [if_neg (show ¬ j ≤ p by omega)]
            cases hc : PyData.eqv o.d q.d with
            | true =>
              refine WP.brT rfl ?_
              k_updF
              refine WP.brT rfl ?_
              k_updF
              rw [show (m : Int) - 1 - (0 + (i : Int)) = (j : Int) by omega]
              refine WP.ixL (SqL.of (e1 _ _ hy)) (atI_nat hu) ?_
              k_updF
              refine WP.ixT (WP.sqt e1 hb2) WP.at0 ?_
              k_updF
              refine WP.ixL (SqL.of (e1 _ _ hy)) (atI_nat hur) ?_
              k_updF
              refine WP.ixT (WP.sqt e1 hbr) WP.at0 ?_
              k_updF
              have p4 := p3 j (by omega) (by omega)
              rw [ML.lvs_at ho] at p4
              refine WP.brF (decide_eq_false (by omega)) ?_
              k_updF
              exact ⟨rfl, _, rfl⟩
            | false =>
              refine WP.brF rfl ?_
              refine WP.brF rfl ?_
              k_updF
              exact ⟨rfl, _, rfl⟩
      rintro σ' H' ⟨rfl, z, rfl⟩
      rw [Nat.sub_self, if_pos (Nat.zero_le _)]
      obtain ⟨o, ho⟩ : ∃ o, rs[p + 1]? = some o := ⟨_, List.getElem?_eq_getElem (by omega)⟩
      obtain ⟨u, hu, b2, pu, vu, rfl, hb2, _, _⟩ := hR.at ho
      k_updF
      refine WP.ixL (SqL.of (e1 _ _ hy)) (atI_nat hu) ?_
      k_updF
      refine WP.ixT (WP.sqt e1 hb2) WP.at0 ?_
      k_updF
      have z := k _ e1
      unfold ML.lawLv at z
      rw [en] at z
      have z2 : (if p + 1 = m then r.lv else ML.lvs rs (p + 1)) = o.lv := by
        by_cases c : p + 1 = m
        · rw [if_pos c]; subst c; rw [hg] at ho; cases ho; rfl
        · rw [if_neg c, ML.lvs_at ho]
      dsimp only at z
      rw [z2] at z
      exact z
end
abbrev s__law_suits : Stmt := top 41
abbrev N__law_suits : List Str := ["picture", "value", "signed", "units", "k"]
theorem sc__law_suits : FnScope N__law_suits ["picture", "value"] (defScope s__law_suits) := ⟨rfl, rfl, rfl, by decide +kernel, rfl, by decide +kernel, by decide +kernel⟩
theorem if3 {c d : Bool} {A B C Z : Prop} (hC : (if d = true then A else B) → C) (hA : c = true → d = true → A) (hB : (c = false ∨ d = false) → B) : if c = true then C else (if false = true then Z else B) := by
  cases c with
  | false => exact hB (.inl rfl)
  | true =>
    refine hC ?_
    cases d with
    | true => exact hA rfl rfl
    | false => exact hB (.inr rfl)
theorem numL_big {m n : Nat} (h : (TL.numL m).length ≤ n) : m < 10 ^ n := by
  have e : NumText.digitsVal (TL.numL m) = m := by
    have := MT.dF_val (m : Int) 0
    unfold MT.dF at this
    rw [MT.digits_zero, Int.natAbs_natCast] at this
    exact this
  have := MF.dv_lt (TL.numL m) (fun c hc => by have := TL.numL_digits m c hc; omega)
  rw [e] at this
  exact Nat.lt_of_lt_of_le this (Nat.pow_le_pow_right (by decide) h)
theorem lit_iff {m n : Nat} (hn : 1 ≤ n) : ((TL.numL m).length ≤ n ∨ m = 0) ↔ m < 10 ^ n :=
  ⟨fun h => h.elim numL_big fun z => by rw [z]; exact Nat.pow_pos (by decide), fun h => .inl (TL.numL_len hn h)⟩
def sp__law_suits (K : PySem.W.Frag) (mg : WP.MG) : Sp := fun vs H Q _ => ∃ (pv vv : V) (r : ML.Row), vs = [pv, vv] ∧ ML.PicV K H pv r.pc ∧ ML.ValV K H vv r.vl ∧ LOk r ∧ Q (.bl (!ML.badVal r.pc r.vl)) H
section
variable {P : Program} {w : World} {K : PySem.W.Frag} {mg : Str → Option Value} {base : Heap}
theorem ok__law_suits {f : Addr} {fd : FuncData} (F : Fun K "_law_suits" "_law_suits" s__law_suits f fd) (B : Blt w K mg)  : FnOk P w K mg base CX0 1 f fd ["picture", "value"] (sp__law_suits K mg) := by
  refine F.ok sc__law_suits (fun vs H Q E h => ?_) (fun cdv A outer s H vs Q E hr h => ?_)
  · first | (obtain ⟨_, rfl, _⟩ := h; rfl) | (obtain ⟨_, _, rfl, _⟩ := h; rfl) | (obtain ⟨_, _, _, rfl, _⟩ := h; rfl) | (obtain ⟨_, _, _, _, rfl, _⟩ := h; rfl) | (obtain ⟨_, _, _, _, _, rfl, _⟩ := h; rfl) | (obtain ⟨_, _, _, _, _, _, rfl, _⟩ := h; rfl) | (obtain ⟨_, _, _, _, _, _, _, rfl, _⟩ := h; rfl) | (obtain ⟨_, _, _, _, _, _, _, _, rfl, _⟩ := h; rfl) | (obtain ⟨rfl, _⟩ := h; rfl)
  · obtain ⟨pv0, vv, r, rfl, hpv, hvv, hok, k⟩ := h
    refine ⟨_, (pss_cons (ps_if (pt_cmpR op_isN (pv 1) pe_non (nomark _)) (pss_one (ps_ret pe_bl)) pss_nil)
      (pss_cons (ps_if (pt_cmpR op_isN (pv 0) pe_non (nomark _)) (pss_one (ps_ret pe_bl)) pss_nil)
      (pss_cons (ps_if (PW.pt (pw_or (pt_cmpR op_eq (pe_ix ix_tup (pv 0) pe_int (fun _ _ => rfl)) (WP.pe_strL [116, 101, 120, 116] (by decide +kernel)) (nomark _)) (pw_or1 (pt_val (pe_callB call_isi (by rfl) B.b_isinstance (by decide +kernel) (pa_cons (pv 1) (pa_cons (pe_bltn (v := .ty "str") rfl B.b_str (by decide +kernel) rfl) pa_nil))))))) (pss_one (ps_ret (pe_and (pe_cmpR op_eq (pe_ix ix_tup (pv 0) pe_int (fun _ _ => rfl)) (WP.pe_strL [116, 101, 120, 116] (by decide +kernel)) (nomark _)) (pe_and (pe_callB call_isi (by rfl) B.b_isinstance (by decide +kernel) (pa_cons (pv 1) (pa_cons (pe_bltn (v := .ty "str") rfl B.b_str (by decide +kernel) rfl) pa_nil))) (pe_one (pe_cmpR op_le (pe_callB WP.c_len (by rfl) B.b_len (by decide +kernel) (WP.pa_consN (pv 1) pa_nil)) (pe_ix ix_tup (pv 0) pe_int (fun _ _ => rfl)) (nomark _))))))) pss_nil)
      (Evl.pss_cut (ps_set (i := 2) sc__law_suits.nd rfl (Or.inl rfl) (pe_ifExp (pt_cmpR op_eq (pe_ix ix_tup (pv 0) pe_int (fun _ _ => rfl)) (WP.pe_strL [110, 117, 109, 98, 101, 114] (by decide +kernel)) (nomark _)) (pe_ix ix_tup (pv 0) pe_int (fun _ _ => rfl)) (pe_cmpR op_ne (pe_ix ix_tup (pv 0) pe_int (fun _ _ => rfl)) (WP.pe_strL [] (by decide +kernel)) (nomark _))))
      (pss_cons (ps_if (PW.pt (pw_or (pt_cmpR op_gt (pe_ix ix_tup (pv 1) pe_int (fun _ _ => rfl)) (pe_ix ix_tup (pv 0) pe_int (fun _ _ => rfl)) (nomark _)) (pw_or1 (PW.pt (pw_and (pt_cmpR op_lt (pe_ix ix_tup (pv 1) pe_int (fun _ _ => rfl)) pe_int (nomark _)) (pw_and1 (pt_not (pt_val (pv 2))))))))) (pss_one (ps_ret pe_bl)) pss_nil)
      (pss_cons (ps_set (i := 3) sc__law_suits.nd rfl (Or.inl rfl) (pe_callB WP.c_abs (by rfl) B.b_abs (by decide +kernel) (WP.pa_consN (pe_ix ix_tup (pv 1) pe_int (fun _ _ => rfl)) pa_nil)))
      (pss_cons (ps_for PassesOwn.never rfl (pi_range1 rfl B.b_range (WP.pa_consN (pe_op op_sub (pe_ix ix_tup (pv 0) pe_int (fun _ _ => rfl)) (pe_ix ix_tup (pv 1) pe_int (fun _ _ => rfl))) pa_nil)) (pg_name (i := 4) sc__law_suits.nd rfl (Or.inl rfl)) (pss_one (ps_set (i := 3) sc__law_suits.nd rfl (Or.inl rfl) (pe_op op_mul (pv 3) pe_int))))
      (pss_one (ps_ret (pe_or (pe_cmpR op_le (pe_callB WP.c_len (by rfl) B.b_len (by decide +kernel) (WP.pa_consN (pe_callTy WP.c_str (by rfl) B.b_str (by decide +kernel) (WP.pa_consN (pv 3) pa_nil)) pa_nil)) (pe_op op_add (pe_ix ix_tup (pv 0) pe_int (fun _ _ => rfl)) (pe_ix ix_tup (pv 0) pe_int (fun _ _ => rfl))) (nomark _)) (pe_one (pe_cmpR op_eq (pv 3) pe_int (nomark _))))))))))))), ?_⟩
    k_updF
    refine ⟨rfl, ?_⟩
    k_updF
    cases hvl : r.vl with
    | non =>
      rw [hvl] at hvv k
      have hvv : vv = .non := hvv
      refine WP.brT (by rw [decide_eq_true hvv]) ?_
      k_updF
      rw [show ML.badVal r.pc .non = false by cases r.pc <;> rfl] at k
      exact k
    | txt t =>
      rw [hvl] at hvv k
      cases hvv
      obtain ⟨ht, _⟩ := hok.txt t hvl
      refine WP.brF rfl ?_
      k_updF
      refine ⟨rfl, ?_⟩
      k_updF
      cases hpc : r.pc with
      | none =>
        rw [hpc] at hpv k
        have hpv : pv0 = .non := hpv
        refine WP.brT (by rw [decide_eq_true hpv]) ?_
        k_updF
        exact k
      | some x =>
        rw [hpc] at hpv k
        obtain ⟨p, rfl, hp⟩ := hpv
        refine WP.brF rfl ?_
        k_updF
        cases x with
        | txt n =>
          refine WP.ixT hp WP.at0 ?_
          k_updF
          refine WP.brT (decide_eq_true rfl) ?_
          refine WP.brT rfl ?_
          k_updF
          refine WP.ixT hp WP.at0 ?_
          k_updF
          refine WP.brT (decide_eq_true rfl) ?_
          k_updF
          refine WP.isY (.base (.str _)) ?_
          k_updF
          refine WP.brT rfl ?_
          k_updF
          refine WP.lenS' (by rw [sizeLine_eq]; omega) ?_
          k_updF
          refine WP.ixT hp WP.at1 ?_
          k_updF
          rw [show (!ML.badVal (some (.txt n)) (.txt t)) = decide ((t.length : Int) ≤ (n : Int)) from by
            show (!!decide (t.length ≤ n)) = _
            rw [Bool.not_not]; exact decide_eq_decide.mpr (by omega)] at k
          exact k
        | pic q =>
          have h0 : ∃ z, atI q.vs (0 : Int) = some (.str (SX.S z)) ∧ z ≠ [116, 101, 120, 116] := by
            cases q with
            | num sg a b => exact ⟨_, WP.at0, by decide⟩
            | ed m a b s => exact ⟨_, WP.at0, by decide⟩
          obtain ⟨z, hz, nz⟩ := h0
          refine WP.ixT hp hz ?_
          k_updF
          refine WP.brF (decide_eq_false nz) ?_
          k_updF
          refine WP.isY (.base (.str _)) ?_
          k_updF
          refine WP.brT rfl ?_
          k_updF
          refine WP.ixT hp hz ?_
          k_updF
          refine WP.brF (decide_eq_false nz) ?_
          k_updF
          exact k
    | dec u s =>
      rw [hvl] at hvv k
      obtain ⟨b, rfl, hb⟩ := hvv
      obtain ⟨hu, hs⟩ := hok.dec u s hvl
      refine WP.brF rfl ?_
      k_updF
      refine ⟨rfl, ?_⟩
      k_updF
      cases hpc : r.pc with
      | none =>
        rw [hpc] at hpv k
        have hpv : pv0 = .non := hpv
        refine WP.brT (by rw [decide_eq_true hpv]) ?_
        k_updF
        exact k
      | some x =>
        have hx := hok.pc x hpc
        rw [hpc] at hpv k
        obtain ⟨p, rfl, hp⟩ := hpv
        refine WP.brF rfl ?_
        k_updF
        cases x with
        | txt n =>
          refine WP.ixT hp WP.at0 ?_
          k_updF
          refine WP.brT (decide_eq_true rfl) ?_
          refine WP.brT rfl ?_
          k_updF
          refine WP.ixT hp WP.at0 ?_
          k_updF
          refine WP.brT (decide_eq_true rfl) ?_
          k_updF
          refine WP.isN (WP.tyT hb) ?_
          k_updF
          refine WP.brF rfl ?_
          exact k
        | pic q =>
          have h0 : ∃ z, atI q.vs (0 : Int) = some (.str (SX.S z)) ∧ z ≠ [116, 101, 120, 116] := by
            cases q with
            | num sg a b => exact ⟨_, WP.at0, by decide⟩
            | ed m a b s => exact ⟨_, WP.at0, by decide⟩
          obtain ⟨z, hz, nz⟩ := h0
          refine WP.ixT hp hz ?_
          k_updF
          refine WP.brF (decide_eq_false nz) ?_
          k_updF
          refine WP.isN (WP.tyT hb) ?_
          k_updF
          refine WP.brF rfl ?_
          have hq := hx.1 q rfl
          have hn := hq.n1
          obtain ⟨w, hw, hfr, hwf⟩ : ∃ w : Nat, atI q.vs (2 : Int) = some (.int (w : Int)) ∧ atI q.vs (3 : Int) = some (.int (q.fr : Int)) ∧ w + q.fr = q.n := by
            cases q with
            | num sg a b => exact ⟨a, WP.at2, WP.at3, rfl⟩
            | ed m a b s => exact ⟨a, WP.at2, WP.at3, rfl⟩
          k_updF
          refine WP.cut (fun σ' H' => H' = H ∧ σ' = [some (.ref p), some (.ref b), some (.bl q.sgd), none, none]) ?_ ?_
          · cases q with
            | num sg a c =>
              k_updF
              refine WP.ixT hp WP.at0 ?_
              k_updF
              refine WP.brT (decide_eq_true rfl) ?_
              k_updF
              refine WP.ixT hp WP.at1 ?_
              k_updF
              exact ⟨rfl, rfl⟩
            | ed m a c sg =>
              k_updF
              refine WP.ixT hp WP.at0 ?_
              k_updF
              refine WP.brF (by decide) ?_
              k_updF
              refine WP.ixT hp WP.at4 ?_
              k_updF
              exact ⟨rfl, rfl⟩
          rintro σ' H' ⟨rfl, rfl⟩
          k_updF
          refine WP.ixT hb WP.at1 ?_
          k_updF
          refine WP.ixT hp hfr ?_
          k_updF
          have kk : (!ML.badVal (some (.pic q)) (.dec u s)) = (decide (s ≤ q.fr) && decide (MP.Suits q (u * 10 ^ (q.fr - s)))) := Bool.not_not _
          rw [kk] at k
          refine WP.br (fun c1 => ?_) (fun c1 => ?_)
          · refine WP.brT rfl ?_
            k_updF
            rw [decide_eq_false (show ¬ s ≤ q.fr by omega), Bool.false_and] at k
            exact k
          rw [decide_eq_true (show s ≤ q.fr by omega), Bool.true_and] at k
          k_updF
          refine WP.ixT hb WP.at0 ?_
          k_updF
          have hnat : ((u * 10 ^ (q.fr - s) : Int)).natAbs = u.natAbs * 10 ^ (q.fr - s) := by rw [Int.natAbs_mul, Int.natAbs_pow]; rfl
          apply if3 (d := !q.sgd)
          · intro z
            k_updF
            exact z
          · intro c2 c3
            k_updF
            rw [decide_eq_false (show ¬ MP.Suits q (u * 10 ^ (q.fr - s)) from fun z => by
              have c2 := of_decide_eq_true c2
              rcases z.2 with z | z
              · have := Int.mul_neg_of_neg_of_pos c2 (show (0 : Int) < 10 ^ (q.fr - s) from Int.pow_pos (by decide)); omega
              · rw [z] at c3; cases c3)] at k
            exact k
          intro c2
          have c3 : 0 ≤ u * 10 ^ (q.fr - s) ∨ q.sgd = true := by
            rcases c2 with c | c
            · exact .inl (Int.mul_nonneg (by have := of_decide_eq_false c; omega) (Int.le_of_lt (Int.pow_pos (by decide))))
            · exact .inr (by cases h : q.sgd with | true => rfl | false => rw [h] at c; cases c)
          rw [show decide (MP.Suits q (u * 10 ^ (q.fr - s))) = decide (u.natAbs * 10 ^ (q.fr - s) < 10 ^ q.n) from decide_eq_decide.mpr (by rw [← hnat]; exact ⟨fun z => z.1, fun z => ⟨z, c3⟩⟩)] at k
          clear c2 c3 hnat kk
          k_updF
          refine WP.ixT hb WP.at0 ?_
          k_updF
          refine WP.absI ?_
          k_updF
          refine WP.ixT hp hfr ?_
          k_updF
          refine WP.ixT hb WP.at1 ?_
          k_updF
          have f18 : q.fr ≤ 18 := by omega
          refine ⟨_, rfl, by omega, by omega, for_range (lo := 0) (n := ((q.fr : Int) - (s : Int)).toNat) (fun i σ' H2 => H2 = H' ∧ ∃ z : Option V, σ' = [some (.ref p), some (.ref b), some (.bl q.sgd), some (.int ((u.natAbs * 10 ^ i : Nat) : Int)), z]) ⟨rfl, none, by rw [Nat.pow_zero, Nat.mul_one]; rfl⟩ ?_ ?_⟩
          · rintro i σ' H2 hi ⟨rfl, z, rfl⟩
            k_updF
            refine WP.iC (.inr ⟨by decide, by decide⟩) ?_
            k_updF
            exact ⟨rfl, _, by rw [Nat.pow_succ, ← Nat.mul_assoc]; push_cast; rfl⟩
          rintro σ' H2 ⟨rfl, z, rfl⟩
          rw [show ((q.fr : Int) - (s : Int)).toNat = q.fr - s by omega]
          have hU : u.natAbs * 10 ^ (q.fr - s) ≤ 10 ^ 36 := Nat.le_trans (Nat.mul_le_mul hu (Nat.pow_le_pow_right (by decide) (show q.fr - s ≤ 18 by omega))) (by decide)
          generalize u.natAbs * 10 ^ (q.fr - s) = U at hU k ⊢
          k_updF
          refine WP.strI ?_ ?_
          · rw [Int.natAbs_natCast]
            by_cases z0 : U = 0
            · rw [z0]; decide
            · have : U.log2 < 200 := (Nat.log2_lt z0).mpr (Nat.lt_of_le_of_lt hU (by decide))
              omega
          rw [SX.num_S]
          k_updF
          refine WP.lenS' (by rw [sizeLine_eq]; exact Nat.le_trans (TL.numL_len (k := 37) (by decide) (Nat.lt_of_le_of_lt hU (by decide))) (by decide)) ?_
          k_updF
          refine WP.ixT hp hw ?_
          k_updF
          refine WP.ixT hp hfr ?_
          k_updF
          have hlit := lit_iff (m := U) (n := q.n) hn.1
          refine WP.br (fun c => ?_) (fun c => ?_)
          · rw [decide_eq_true (hlit.mp (.inl (by omega)))] at k
            exact k
          · k_updF
            rw [show decide ((U : Int) = 0) = decide (U < 10 ^ q.n) from decide_eq_decide.mpr ⟨fun z => hlit.mp (.inr (by omega)), fun z => by
              rcases hlit.mpr z with z | z
              · exact absurd (show ((TL.numL U).length : Int) ≤ (w : Int) + (q.fr : Int) by omega) c
              · omega⟩]
            exact k
end
abbrev s__law_due : Stmt := top 44
abbrev N__law_due : List Str := ["rows", "at", "row", "around", "below", "other"]
theorem sc__law_due : FnScope N__law_due ["rows"] (defScope s__law_due) := ⟨rfl, rfl, rfl, by decide +kernel, rfl, by decide +kernel, by decide +kernel⟩
def sp__law_due (K : PySem.W.Frag) (mg : WP.MG) : Sp := fun vs H Q _ => ∃ (a : Addr) (xs : List V) (rs : List ML.Row), vs = [.ref a] ∧ H a = some (.lst xs) ∧ ML.RwA K H xs rs ∧ rs.length ≤ 40 ∧ (∀ r ∈ rs, LOk r) ∧
  (∀ (k : Nat) (r : ML.Row), rs[k]? = some r → ML.flt rs k r ≠ [] → ML.okTo rs k → WP.RetT [.str (SX.S (ML.flt rs k r)), .str (SX.S r.nm)] H Q) ∧ (ML.okTo rs rs.length → WP.RetT [.str (SX.S []), .str (SX.S [])] H Q)
section
variable {P : Program} {w : World} {K : PySem.W.Frag} {mg : Str → Option Value} {base : Heap}
theorem ok__law_due {f : Addr} {fd : FuncData} (F : Fun K "_law_due" "_law_due" s__law_due f fd) (B : Blt w K mg) (c__law_around : WP.Callee P w K mg base CX0 1 "_law_around" ["rows", "at"] (sp__law_around K mg)) (c__law_level : WP.Callee P w K mg base CX0 2 "_law_level" ["rows", "at"] (sp__law_level K mg)) (c__law_suits : WP.Callee P w K mg base CX0 1 "_law_suits" ["picture", "value"] (sp__law_suits K mg)) : FnOk P w K mg base CX0 3 f fd ["rows"] (sp__law_due K mg) := by
  refine F.ok sc__law_due (fun vs H Q E h => ?_) (fun cdv A outer s H vs Q E hr h => ?_)
  · first | (obtain ⟨_, rfl, _⟩ := h; rfl) | (obtain ⟨_, _, rfl, _⟩ := h; rfl) | (obtain ⟨_, _, _, rfl, _⟩ := h; rfl) | (obtain ⟨_, _, _, _, rfl, _⟩ := h; rfl) | (obtain ⟨_, _, _, _, _, rfl, _⟩ := h; rfl) | (obtain ⟨_, _, _, _, _, _, rfl, _⟩ := h; rfl) | (obtain ⟨_, _, _, _, _, _, _, rfl, _⟩ := h; rfl) | (obtain ⟨_, _, _, _, _, _, _, _, rfl, _⟩ := h; rfl) | (obtain ⟨rfl, _⟩ := h; rfl)
  · obtain ⟨a, xs, rs, rfl, hy, hR, hl, hok, kF, kQ⟩ := h
    refine ⟨_, (pss_cons (ps_for PassesOwn.never rfl (pi_range1 rfl B.b_range (WP.pa_consN (pe_callB WP.c_len (by rfl) B.b_len (by decide +kernel) (WP.pa_consN (pv 0) pa_nil)) pa_nil)) (pg_name (i := 1) sc__law_due.nd rfl (Or.inl rfl)) (pss_cons (ps_set (i := 2) sc__law_due.nd rfl (Or.inl rfl) (pe_ix ix_list (pv 0) (pv 1) (fun _ _ => rfl)))
      (pss_cons (ps_set (i := 3) sc__law_due.nd rfl (Or.inl rfl) (WP.pe_callC c__law_around hr rfl pass0 (WP.pa_consN (pv 0) (WP.pa_consN (pv 1) pa_nil))))
      (pss_cons (ps_if (pt_cmpR op_ne (pe_ix ix_tup (pv 2) pe_int (fun _ _ => rfl)) (WP.pe_callC c__law_level hr rfl pass0 (WP.pa_consN (pv 0) (WP.pa_consN (pv 1) pa_nil))) (nomark _)) (pss_one (ps_ret (pe_tup (WP.pa_consN (WP.pe_strL [108, 101, 118, 101, 108] (by decide +kernel)) (WP.pa_consN (pe_ix ix_tup (pv 2) pe_int (fun _ _ => rfl)) pa_nil))))) pss_nil)
      (pss_cons (ps_if (pt_cmpR op_in_seq (pe_ix ix_tup (pv 2) pe_int (fun _ _ => rfl)) (pe_lc (own := [("other", 5)]) (g := gName 5) (tt := tYes) rfl sc__law_due.nd (pi_list (pe_slice sl_list (pv 0) po_none (po_some (pv 1)))) (blkOk_by (own := [("other", 5)]) (N := N__law_due) (sc := defScope s__law_due) (by decide +kernel)) (fun _ _ _ _ _ => pg_name (i := 5) sc__law_due.nd rfl (Or.inl rfl)) (fun _ _ _ _ _ => pts_nil) (fun _ _ _ _ _ => (pe_ix (WP.ix_tupK (K := K) rfl) (pv 5) pe_int (fun _ _ => rfl)))) rfl) (pss_one (ps_ret (pe_tup (WP.pa_consN (WP.pe_strL [110, 97, 109, 101] (by decide +kernel)) (WP.pa_consN (pe_ix ix_tup (pv 2) pe_int (fun _ _ => rfl)) pa_nil))))) pss_nil)
      (Evl.pss_cut (ps_if (PW.pt (pw_and (pt_cmpR op_gt (pe_ix ix_tup (pv 2) pe_int (fun _ _ => rfl)) pe_int (nomark _)) (pw_and1 (PW.pt (pw_or (pt_cmpR op_eq (pe_callB WP.c_len (by rfl) B.b_len (by decide +kernel) (WP.pa_consN (pv 3) pa_nil)) pe_int (nomark _)) (pw_or1 (pt_cmpR op_gt (pe_callB WP.c_len (by rfl) B.b_len (by decide +kernel) (WP.pa_consN (pe_lc (own := [("other", 5)]) (g := gName 5) rfl sc__law_due.nd (pi_list (pv 3)) (blkOk_by (own := [("other", 5)]) (N := N__law_due) (sc := defScope s__law_due) (by decide +kernel)) (fun _ _ _ _ _ => pg_name (i := 5) sc__law_due.nd rfl (Or.inl rfl)) (fun _ _ _ _ _ => (pts_one (pt_cmpR op_gt (pe_ix (WP.ix_tupK (K := K) rfl) (pv 5) pe_int (fun _ _ => rfl)) pe_int (nomark _)))) (fun _ _ _ _ _ => (pv 5))) pa_nil)) pe_int (nomark _)))))))) (pss_one (ps_ret (pe_tup (WP.pa_consN (WP.pe_strL [111, 99, 99, 117, 114, 115] (by decide +kernel)) (WP.pa_consN (pe_ix ix_tup (pv 2) pe_int (fun _ _ => rfl)) pa_nil))))) pss_nil)
      (pss_cons (ps_if (pt_not (pt_val (WP.pe_callC c__law_suits hr rfl pass0 (WP.pa_consN (pe_ix ix_tup (pv 2) pe_int (fun _ _ => rfl)) (WP.pa_consN (pe_ix ix_tup (pv 2) pe_int (fun _ _ => rfl)) pa_nil))))) (pss_one (ps_ret (pe_tup (WP.pa_consN (WP.pe_strL [118, 97, 108, 117, 101] (by decide +kernel)) (WP.pa_consN (pe_ix ix_tup (pv 2) pe_int (fun _ _ => rfl)) pa_nil))))) pss_nil)
      (Evl.pss_cut (ps_set (i := 4) sc__law_due.nd rfl (Or.inl rfl) (pe_and (pe_cmpR op_lt (pe_op op_add (pv 1) pe_int) (pe_callB WP.c_len (by rfl) B.b_len (by decide +kernel) (WP.pa_consN (pv 0) pa_nil)) (nomark _)) (pe_one (pe_cmpR op_gt (pe_ix ix_tup (pe_ix ix_list (pv 0) (pe_op op_add (pv 1) pe_int) (fun _ _ => rfl)) pe_int (fun _ _ => rfl)) (pe_ix ix_tup (pv 2) pe_int (fun _ _ => rfl)) (nomark _)))))
      (pss_one (ps_if (pt_cmpR op_ne (pv 4) (pe_cmpR op_isN (pe_ix ix_tup (pv 2) pe_int (fun _ _ => rfl)) pe_non (nomark _)) (nomark _)) (pss_one (ps_ret (pe_tup (WP.pa_consN (WP.pe_strL [103, 114, 111, 117, 112] (by decide +kernel)) (WP.pa_consN (pe_ix ix_tup (pv 2) pe_int (fun _ _ => rfl)) pa_nil))))) pss_nil))))))))))
      (pss_one (ps_ret (pe_tup (WP.pa_consN (WP.pe_strL [] (by decide +kernel)) (WP.pa_consN (WP.pe_strL [] (by decide +kernel)) pa_nil)))))), ?_⟩
    have lx := hR.1
    k_updF
    refine WP.lenL (SqL.of hy) ?_
    k_updF
    refine ⟨_, rfl, by omega, by omega, for_range (lo := 0) (n := xs.length) (fun i σ' H' => Same H H' ∧ ML.okTo rs i ∧ ∃ z1 z2 z3 z4 : Option V, σ' = [some (.ref a), z1, z2, z3, z4, none]) ⟨Same.refl _, fun j r h _ => absurd h (Nat.not_lt_zero _), none, none, none, none, rfl⟩ ?_ ?_⟩
    · rintro i σ' H1 hi ⟨e1, hto, z1, z2, z3, z4, rfl⟩
      obtain ⟨r, hg⟩ : ∃ r, rs[i]? = some r := ⟨_, List.getElem?_eq_getElem (by omega)⟩
      obtain ⟨u, hu, hrow⟩ := hR.at hg
      have hrok := hok r (List.mem_of_getElem? hg)
      have hlf := ML.law_flt hto hg
      have kF := kF i r hg
      rw [Int.zero_add]
      k_updF
      refine WP.ixL (SqL.of (e1 _ _ hy)) (atI_nat hu) ?_
      k_updF
      refine ⟨a, i, xs, rs, r, rfl, e1 _ _ hy, hR.keep fun b us h => WP.sqt e1 h, hg, hl, fun p ys H2 e2 hp hA => ?_⟩
      replace e2 := e1.trans e2
      obtain ⟨b, pv, vv, rfl, hb, hpv, hvv⟩ := hrow
      k_updF
      refine WP.ixT (WP.sqt e2 hb) WP.at0 ?_
      k_updF
      refine ⟨a, i, xs, rs, r, rfl, e2 _ _ hy, hR.keep fun b us h => WP.sqt e2 h, hg, hl, hok, fun H3 e3 => ?_⟩
      have kp3 : ∀ b us, SqT K H2 b us → SqT K H3 b us := fun b us h => WP.sqt e3 h
      replace hA := hA.keep kp3
      replace hp := e3 _ _ hp
      replace e2 := e2.trans e3
      clear e1 e3 kp3
      k_updF
      rw [← hlf] at kF
      by_cases c1 : ¬ (r.lv : Int) = (ML.lawLv (ML.lvs rs) i r.lv : Int)
      · rw [decide_eq_false c1]
        refine WP.brT rfl ?_
        k_updF
        refine WP.ixT (WP.sqt e2 hb) WP.at1 ?_
        k_updF
        refine ⟨WP.sz2, ?_⟩
        have eF : ML.lawFlt rs i r = ML.LEVEL := by unfold ML.lawFlt; rw [if_pos (by omega)]
        rw [eF] at kF
        exact (kF (by decide) hto).new e2
      have eF : ML.lawFlt rs i r = (if r.nm ∈ ML.nmsOf (rs.take i) then ML.NAME else if 0 < r.tm ∧ (ML.aroundF rs i r.lv = [] ∨ 1 < ML.dims (ML.aroundF rs i r.lv)) then ML.OCCURS else if ML.badVal r.pc r.vl = true then ML.VALUE else if decide (r.lv < ML.nxl rs i) = r.pc.isSome then ML.GROUP else []) := by unfold ML.lawFlt; rw [if_neg (by omega)]
      rw [eF] at kF hlf
      rw [decide_eq_true (Decidable.not_not.mp c1)]
      refine WP.brF rfl ?_
      clear eF c1
      k_updF
      refine WP.ixT (WP.sqt e2 hb) WP.at1 ?_
      k_updF
      refine sl_to (SqL.of (e2 _ _ hy)) (by omega) fun p2 H4 e4 h4 => ?_
      k_updF
      refine ⟨p2, rfl, ⟨_, SqL.of h4⟩, fun D hD => lc_list (K := K) (a := p2) (xs := xs.take i) (fun j H' => Same H4 H' ∧ H' D = some (.lst (((rs.take i).take j).map fun o => V.str (SX.S o.nm)))) ⟨WP.same_new hD, upd_same⟩ (fun j H' _ h => SqL.of (h.1 _ _ h4)) ?_ ?_⟩
      · rintro j v H' hv ⟨e5, h5⟩
        have hRt := hR.take i
        obtain ⟨o, ho, b2, pu, vu, rfl, hb2, _, _⟩ := hRt.get hv
        have et : (rs.take i).take (j + 1) = (rs.take i).take j ++ [o] := by rw [List.take_succ, ho]; rfl
        k_updF
        refine ⟨rfl, WP.yes ?_⟩
        k_updF
        refine WP.ixT (WP.sqt e5 (WP.sqt e4 (WP.sqt e2 hb2))) WP.at1 ?_
        refine ⟨_, h5, by rw [List.length_map, List.length_take, List.length_take, sizeLine_eq]; omega, WP.same_mut e5 hD, ?_⟩
        rw [upd_same, et, List.map_append]; rfl
      rintro H5 ⟨e5, h5⟩
      rw [List.length_take, Nat.min_eq_left (by omega : i ≤ xs.length), List.take_take, Nat.min_self] at h5
      replace e2 := e2.trans (e4.trans e5)
      replace hp := e5 _ _ (e4 _ _ hp)
      replace hA := hA.keep (fun b us h => WP.sqt e5 (WP.sqt e4 h))
      clear e4 h4
      refine WP.inL (ML.nmsOf (rs.take i)) (SqL.of h5) (by unfold ML.nmsOf; rw [List.map_map]; rfl) ?_
      clear h5 e5
      k_updF
      refine WP.br (fun c2 => ?_) (fun c2 => ?_)
      · k_updF
        refine WP.ixT (WP.sqt e2 hb) WP.at1 ?_
        k_updF
        refine ⟨WP.sz2, ?_⟩
        rw [if_pos c2] at kF
        exact (kF (by decide) hto).new e2
      rw [if_neg c2] at kF hlf
      clear c2
      refine WP.cut (fun σ' H' => Same H H' ∧ σ' = [some (.ref a), some (.int (i : Int)), some (.ref b), some (.ref p), z4, none] ∧ ¬ (0 < r.tm ∧ (ML.aroundF rs i r.lv = [] ∨ 1 < ML.dims (ML.aroundF rs i r.lv)))) ?_ ?_
      · k_updF
        refine WP.ixT (WP.sqt e2 hb) WP.at3 ?_
        k_updF
        have lA := hA.1
        have lB : (ML.aroundF rs i r.lv).length ≤ 40 := by
          rw [ML.around_path (by omega), List.length_reverse]
          unfold ML.below
          have h1 := List.length_filter_le (fun o : ML.Row => decide (o.lv < r.lv)) (ML.pathOf (rs.take i))
          have h2 := ML.path_len (rs.take i)
          rw [List.length_take] at h2
          omega
        by_cases c0 : (r.tm : Int) > 0
        · rw [decide_eq_true c0]
          refine WP.brT rfl ?_
          k_updF
          refine WP.lenL (SqL.of hp) ?_
          k_updF
          by_cases c3 : (ys.length : Int) = 0
          · rw [decide_eq_true c3]
            refine WP.brT rfl ?_
            refine WP.brT rfl ?_
            k_updF
            refine WP.ixT (WP.sqt e2 hb) WP.at1 ?_
            k_updF
            refine ⟨WP.sz2, ?_⟩
            rw [if_pos ⟨by omega, .inl (List.length_eq_zero_iff.mp (by omega))⟩] at kF
            exact (kF (by decide) hto).new e2
          · rw [decide_eq_false c3]
            refine WP.brF rfl ?_
            k_updF
            refine ⟨p, rfl, ⟨_, SqL.of hp⟩, fun D hD => lc_list (K := K) (a := p) (xs := ys) (fun j H' => Same H5 H' ∧ ∃ ls, H' D = some (.lst ls) ∧ ls.length = ML.dims ((ML.aroundF rs i r.lv).take j)) ⟨WP.same_new hD, [], upd_same, rfl⟩ (fun j H' _ h => SqL.of (h.1 _ _ hp)) ?_ ?_⟩
            · rintro j v H' hv ⟨e5, ls, h5, hls⟩
              obtain ⟨o, ho, b2, pu, vu, rfl, hb2, _, _⟩ := hA.get hv
              have et : (ML.aroundF rs i r.lv).take (j + 1) = (ML.aroundF rs i r.lv).take j ++ [o] := by rw [List.take_succ, ho]; rfl
              have hle : ls.length ≤ 40 := by
                rw [hls]
                refine Nat.le_trans (List.length_filter_le _ _) ?_
                rw [List.length_take]; omega
              k_updF
              refine ⟨rfl, ?_⟩
              k_updF
              refine WP.ixT (WP.sqt e5 hb2) WP.at3 ?_
              k_updF
              refine WP.br (fun c4 => ?_) (fun c4 => ?_)
              · k_updF
                refine ⟨_, h5, by rw [sizeLine_eq]; omega, WP.same_mut e5 hD, _, upd_same, ?_⟩
                rw [et, ML.dims_snoc, if_pos (by omega), List.length_append, hls]; rfl
              · refine ⟨e5, ls, h5, ?_⟩
                rw [et, ML.dims_snoc, if_neg (by omega), hls]; rfl
            rintro H6 ⟨e5, ls, h5, hls⟩
            rw [lA, List.take_length] at hls
            k_updF
            refine WP.lenL (SqL.of h5) ?_
            k_updF
            refine WP.br (fun c4 => ?_) (fun c4 => ?_)
            · k_updF
              refine WP.ixT (WP.sqt (e2.trans e5) hb) WP.at1 ?_
              k_updF
              refine ⟨WP.sz2, ?_⟩
              rw [if_pos ⟨by omega, .inr (by omega)⟩] at kF
              exact (kF (by decide) hto).new (e2.trans e5)
            · k_updF
              exact ⟨e2.trans e5, rfl, fun z => z.2.elim (fun w => by rw [w] at lA; exact c3 (by rw [lA]; rfl)) (fun w => by omega)⟩
        · rw [decide_eq_false c0]
          refine WP.brF rfl ?_
          refine WP.brF rfl ?_
          k_updF
          exact ⟨e2, rfl, fun z => by omega⟩
      clear e2 hp hA
      rintro σ' H6 ⟨e2, rfl, c3⟩
      rw [if_neg c3] at kF hlf
      clear c3
      k_updF
      refine WP.ixT (WP.sqt e2 hb) WP.at2 ?_
      k_updF
      refine WP.ixT (WP.sqt e2 hb) WP.at4 ?_
      k_updF
      refine ⟨_, _, r, rfl, hpv.keep (fun b us h => WP.sqt e2 h), hvv.keep (fun b us h => WP.sqt e2 h), hrok, ?_⟩
      k_updF
      cases hbv : ML.badVal r.pc r.vl with
      | true =>
        refine WP.brT rfl ?_
        k_updF
        refine WP.ixT (WP.sqt e2 hb) WP.at1 ?_
        k_updF
        refine ⟨WP.sz2, ?_⟩
        rw [if_pos hbv] at kF
        exact (kF (by decide) hto).new e2
      | false =>
        rw [if_neg (by rw [hbv]; decide)] at kF hlf
        refine WP.brF rfl ?_
        k_updF
        refine WP.cut (fun σ' H' => Same H H' ∧ σ' = [some (.ref a), some (.int (i : Int)), some (.ref b), some (.ref p), some (.bl (decide (r.lv < ML.nxl rs i))), none]) ?_ ?_
        · k_updF
          refine WP.lenL (SqL.of (e2 _ _ hy)) ?_
          k_updF
          refine WP.br (fun c => ?_) (fun c => ?_)
          · obtain ⟨o, ho⟩ : ∃ o, rs[i + 1]? = some o := ⟨_, List.getElem?_eq_getElem (by omega)⟩
            obtain ⟨u2, hu2, b2, pu, vu, rfl, hb2, _, _⟩ := hR.at ho
            have en : ML.nxl rs i = o.lv := by unfold ML.nxl; rw [ho]
            k_updF
            rw [show (i : Int) + 1 = ((i + 1 : Nat) : Int) by omega]
            refine WP.ixL (SqL.of (e2 _ _ hy)) (atI_nat hu2) ?_
            k_updF
            refine WP.ixT (WP.sqt e2 hb2) WP.at0 ?_
            k_updF
            refine WP.ixT (WP.sqt e2 hb) WP.at0 ?_
            k_updF
            refine ⟨e2, ?_⟩
            rw [en, show decide ((r.lv : Int) < (o.lv : Int)) = decide (r.lv < o.lv) from decide_eq_decide.mpr (by omega)]
            rfl
          · k_updF
            refine ⟨e2, ?_⟩
            have en : ML.nxl rs i = 1 := by unfold ML.nxl; rw [List.getElem?_eq_none_iff.mpr (by omega)]
            have := hrok.l1
            rw [en, decide_eq_false (show ¬ r.lv < 1 by omega)]
            rfl
        clear e2
        rintro σ' H7 ⟨e2, rfl⟩
        k_updF
        refine WP.ixT (WP.sqt e2 hb) WP.at2 ?_
        k_updF
        refine ⟨rfl, ?_⟩
        k_updF
        have pzn : decide (pv = V.non) = !r.pc.isSome := by
          cases h : r.pc with
          | none => rw [h] at hpv; exact decide_eq_true (show pv = .non from hpv)
          | some x => rw [h] at hpv; obtain ⟨q, rfl, _⟩ := hpv; exact decide_eq_false fun z => nomatch z
        rw [pzn]
        by_cases c : decide (r.lv < ML.nxl rs i) = r.pc.isSome
        · rw [if_pos c] at kF
          refine WP.brT (by rw [c]; cases r.pc <;> rfl) ?_
          k_updF
          refine WP.ixT (WP.sqt e2 hb) WP.at1 ?_
          k_updF
          refine ⟨WP.sz2, ?_⟩
          exact (kF (by decide) hto).new e2
        · rw [if_neg c] at hlf
          refine WP.brF (by cases h1 : decide (r.lv < ML.nxl rs i) <;> cases h2 : r.pc.isSome <;> first | rfl | (rw [h1, h2] at c; exact absurd rfl c)) ?_
          k_updF
          refine ⟨e2, fun j o hj ho => ?_, _, _, _, _, rfl⟩
          by_cases ej : j = i
          · subst ej
            rw [hg] at ho
            cases ho
            exact hlf.symm
          · exact hto j o (by omega) ho
    rintro σ' H1 ⟨e1, hto, z1, z2, z3, z4, rfl⟩
    k_updF
    refine ⟨WP.sz2, ?_⟩
    rw [lx] at hto
    exact (kQ hto).new e1
end
abbrev s__law_changed : Stmt := top 40
abbrev N__law_changed : List Str := ["rows", "rich", "at", "row", "rest", "choice", "value"]
theorem sc__law_changed : FnScope N__law_changed ["rows", "rich"] (defScope s__law_changed) := ⟨rfl, rfl, rfl, by decide +kernel, rfl, by decide +kernel, by decide +kernel⟩
theorem fin_row {K : PySem.W.Frag} {H H2 : Hp} {Q : VK} {xs : List V} {rs : List ML.Row} {i : Nat} {v : V} {q : ML.Row} {p : Addr} (k : lRets K (rs.length + 1) H Q) (hR : ML.RwA K H xs rs) (hok : ∀ r ∈ rs, LOk r) (e : Same H H2) (hv : ML.RowAt K H2 v q) (hq : LOk q) (hi : i < rs.length)
    (hp : H2 p = some (.lst (xs.take i ++ [v] ++ xs.drop (i + 1)))) : Q (.ref p) H2 := by
  have hR2 : ML.RwA K H2 xs rs := hR.keep fun b us h => WP.sqt e h
  refine k p _ (rs.take i ++ [q] ++ rs.drop (i + 1)) H2 e hp (((hR2.take i).app (.one hv)).app (hR2.drop _)) ?_ ?_
  · rw [List.length_append, List.length_append, List.length_take, List.length_drop]; show _ + 1 + _ ≤ _; omega
  · intro r h
    rcases List.mem_append.mp h with h | h
    · rcases List.mem_append.mp h with h | h
      · exact hok r (List.mem_of_mem_take h)
      · rw [List.mem_singleton.mp h]; exact hq
    · exact hok r (List.mem_of_mem_drop h)
abbrev VBd (vl : ML.Val) : Prop := (∀ t, vl = .txt t → t.length ≤ 15 ∧ ∀ c ∈ t, c < 128) ∧ (∀ u s, vl = .dec u s → u.natAbs ≤ 10 ^ 18 ∧ s ≤ 20)
theorem vbt {t : ML.Tx} (h : t.length ≤ 15) (h2 : ∀ c ∈ t, c < 128) : VBd (.txt t) := ⟨fun u z => by cases z; exact ⟨h, h2⟩, fun u s z => nomatch z⟩
theorem vbd {u : Int} {n : Nat} (h : u.natAbs ≤ 10 ^ 18) (h2 : n ≤ 20) : VBd (.dec u n) := ⟨(fun u z => nomatch z), fun u s z => by cases z; exact ⟨h, h2⟩⟩
theorem vals8 {K : PySem.W.Frag} {H : Hp} {p1 p2 p3 p4 p5 : Addr} (h1 : H p1 = some (.tup [.int 5, .int 0])) (h2 : H p2 = some (.tup [.int (-5), .int 0])) (h3 : H p3 = some (.tup [.int 5, .int 3])) (h4 : H p4 = some (.tup [.int 123456789, .int 0])) (h5 : H p5 = some (.tup [.int 0, .int 0])) {j : Int} (j0 : 0 ≤ j) (j1 : j < 8) :
    ∃ v vl, atI [.str (SX.S [97]), .str (SX.S [97, 98, 99, 100, 101, 102, 103, 104, 105, 106, 107, 108, 109, 110, 111]), .ref p1, .ref p2, .ref p3, .ref p4, .ref p5, .non] j = some v ∧ ML.ValV K H v vl ∧ VBd vl := by
  obtain ⟨i, rfl⟩ : ∃ i : Nat, j = (i : Int) := ⟨j.toNat, by omega⟩
  rcases (by omega : i = 0 ∨ i = 1 ∨ i = 2 ∨ i = 3 ∨ i = 4 ∨ i = 5 ∨ i = 6 ∨ i = 7) with h | h | h | h | h | h | h | h <;> subst h
  · exact ⟨_, .txt _, atI_nat rfl, rfl, vbt (by decide) (by decide)⟩
  · exact ⟨_, .txt _, atI_nat rfl, rfl, vbt (by decide) (by decide)⟩
  · exact ⟨_, .dec 5 0, atI_nat rfl, ⟨_, rfl, SqT.of h1⟩, vbd (by decide) (by decide)⟩
  · exact ⟨_, .dec (-5) 0, atI_nat rfl, ⟨_, rfl, SqT.of h2⟩, vbd (by decide) (by decide)⟩
  · exact ⟨_, .dec 5 3, atI_nat rfl, ⟨_, rfl, SqT.of h3⟩, vbd (by decide) (by decide)⟩
  · exact ⟨_, .dec 123456789 0, atI_nat rfl, ⟨_, rfl, SqT.of h4⟩, vbd (by decide) (by decide)⟩
  · exact ⟨_, .dec 0 0, atI_nat rfl, ⟨_, rfl, SqT.of h5⟩, vbd (by decide) (by decide)⟩
  · exact ⟨_, .non, atI_nat rfl, rfl, (fun t z => nomatch z), (fun u s z => nomatch z)⟩
def sp__law_changed (K : PySem.W.Frag) (mg : WP.MG) : Sp := fun vs H Q _ => ∃ (a : Addr) (r : Int) (xs : List V) (rs : List ML.Row), vs = [.ref a, .int r] ∧ 0 ≤ r ∧ H a = some (.lst xs) ∧ ML.RwA K H xs rs ∧ rs.length ≤ 40 ∧ rs ≠ [] ∧ (∀ r ∈ rs, LOk r) ∧ lRets K (rs.length + 1) H Q
section
variable {P : Program} {w : World} {K : PySem.W.Frag} {mg : Str → Option Value} {base : Heap}
theorem ok__law_changed {f : Addr} {fd : FuncData} (F : Fun K "_law_changed" "_law_changed" s__law_changed f fd) (B : Blt w K mg)  : FnOk P w K mg base CX0 1 f fd ["rows", "rich"] (sp__law_changed K mg) := by
  refine F.ok sc__law_changed (fun vs H Q E h => ?_) (fun cdv A outer s H vs Q E hr h => ?_)
  · first | (obtain ⟨_, rfl, _⟩ := h; rfl) | (obtain ⟨_, _, rfl, _⟩ := h; rfl) | (obtain ⟨_, _, _, rfl, _⟩ := h; rfl) | (obtain ⟨_, _, _, _, rfl, _⟩ := h; rfl) | (obtain ⟨_, _, _, _, _, rfl, _⟩ := h; rfl) | (obtain ⟨_, _, _, _, _, _, rfl, _⟩ := h; rfl) | (obtain ⟨_, _, _, _, _, _, _, rfl, _⟩ := h; rfl) | (obtain ⟨_, _, _, _, _, _, _, _, rfl, _⟩ := h; rfl) | (obtain ⟨rfl, _⟩ := h; rfl)
  · obtain ⟨a, r, xs, rs, rfl, hr0, hy, hR, hl, hne, hok, k⟩ := h
    refine ⟨_, (pss_cons (ps_set (i := 2) sc__law_changed.nd rfl (Or.inl rfl) (pe_op op_mod (pv 1) (pe_callB WP.c_len (by rfl) B.b_len (by decide +kernel) (WP.pa_consN (pv 0) pa_nil))))
      (pss_cons (ps_set (i := 3) sc__law_changed.nd rfl (Or.inl rfl) (pe_ix ix_list (pv 0) (pv 2) (fun _ _ => rfl)))
      (pss_cons (ps_set (i := 4) sc__law_changed.nd rfl (Or.inl rfl) (pe_op op_fdiv (pv 1) pe_int))
      (pss_cons (ps_set (i := 5) sc__law_changed.nd rfl (Or.inl rfl) (pe_op op_mod (pv 4) pe_int))
      (pss_cons (ps_if (pt_cmpR op_eq (pv 5) pe_int (nomark _)) (pss_one (ps_ret (pe_op op_cat (pe_op op_cat (pe_slice sl_list (pv 0) po_none (po_some (pv 2))) (pe_lst (WP.pa_consN (pe_op op_catT (pe_tup (WP.pa_consN (pe_ix ix_list (pe_lst (WP.pa_consN pe_int (WP.pa_consN pe_int (WP.pa_consN pe_int (WP.pa_consN pe_int (WP.pa_consN pe_int (WP.pa_consN pe_int pa_nil))))))) (pe_op op_mod (pe_op op_fdiv (pv 4) pe_int) pe_int) (fun _ _ => rfl)) pa_nil)) (pe_slice sl_tup (pv 3) (po_some pe_int) po_none)) pa_nil))) (pe_slice sl_list (pv 0) (po_some (pe_op op_add (pv 2) pe_int)) po_none)))) pss_nil)
      (pss_cons (ps_if (pt_cmpR op_eq (pv 5) pe_int (nomark _)) (pss_one (ps_ret (pe_op op_cat (pe_op op_cat (pe_slice sl_list (pv 0) po_none (po_some (pv 2))) (pe_lst (WP.pa_consN (pe_op op_catT (pe_tup (WP.pa_consN (pe_ix ix_tup (pv 3) pe_int (fun _ _ => rfl)) (WP.pa_consN (pe_ix ix_tup (pe_ix ix_list (pv 0) (pe_op op_mod (pe_op op_fdiv (pv 4) pe_int) (pe_callB WP.c_len (by rfl) B.b_len (by decide +kernel) (WP.pa_consN (pv 0) pa_nil))) (fun _ _ => rfl)) pe_int (fun _ _ => rfl)) pa_nil))) (pe_slice sl_tup (pv 3) (po_some pe_int) po_none)) pa_nil))) (pe_slice sl_list (pv 0) (po_some (pe_op op_add (pv 2) pe_int)) po_none)))) pss_nil)
      (pss_cons (ps_if (pt_cmpR op_eq (pv 5) pe_int (nomark _)) (pss_one (ps_ret (pe_op op_cat (pe_op op_cat (pe_slice sl_list (pv 0) po_none (po_some (pv 2))) (pe_lst (WP.pa_consN (pe_op op_catT (pe_op op_catT (pe_slice sl_tup (pv 3) po_none (po_some pe_int)) (pe_tup (WP.pa_consN (pe_op op_add pe_int (pe_op op_mod (pe_op op_fdiv (pv 4) pe_int) pe_int)) pa_nil))) (pe_slice sl_tup (pv 3) (po_some pe_int) po_none)) pa_nil))) (pe_slice sl_list (pv 0) (po_some (pe_op op_add (pv 2) pe_int)) po_none)))) pss_nil)
      (pss_cons (ps_if (pt_cmpR op_lt (pv 5) pe_int (nomark _)) (pss_cons (ps_set (i := 6) sc__law_changed.nd rfl (Or.inl rfl) (pe_ix ix_list (pe_lst (WP.pa_consN (WP.pe_strL [97] (by decide +kernel)) (WP.pa_consN (WP.pe_strL [97, 98, 99, 100, 101, 102, 103, 104, 105, 106, 107, 108, 109, 110, 111] (by decide +kernel)) (WP.pa_consN (pe_tup (WP.pa_consN pe_int (WP.pa_consN pe_int pa_nil))) (WP.pa_consN (pe_tup (WP.pa_consN (pe_un un_neg pe_int) (WP.pa_consN pe_int pa_nil))) (WP.pa_consN (pe_tup (WP.pa_consN pe_int (WP.pa_consN pe_int pa_nil))) (WP.pa_consN (pe_tup (WP.pa_consN pe_int (WP.pa_consN pe_int pa_nil))) (WP.pa_consN (pe_tup (WP.pa_consN pe_int (WP.pa_consN pe_int pa_nil))) (WP.pa_consN pe_non pa_nil))))))))) (pe_op op_mod (pe_op op_fdiv (pv 4) pe_int) pe_int) (fun _ _ => rfl)))
      (pss_one (ps_ret (pe_op op_cat (pe_op op_cat (pe_slice sl_list (pv 0) po_none (po_some (pv 2))) (pe_lst (WP.pa_consN (pe_op op_catT (pe_slice sl_tup (pv 3) po_none (po_some pe_int)) (pe_tup (WP.pa_consN (pv 6) pa_nil))) pa_nil))) (pe_slice sl_list (pv 0) (po_some (pe_op op_add (pv 2) pe_int)) po_none))))) pss_nil)
      (pss_cons (ps_if (pt_cmpR op_eq (pv 5) pe_int (nomark _)) (pss_one (ps_ret (pe_op op_cat (pe_op op_cat (pe_slice sl_list (pv 0) po_none (po_some (pv 2))) (pe_lst (WP.pa_consN (pe_op op_catT (pe_op op_catT (pe_slice sl_tup (pv 3) po_none (po_some pe_int)) (pe_tup (WP.pa_consN pe_non pa_nil))) (pe_slice sl_tup (pv 3) (po_some pe_int) po_none)) pa_nil))) (pe_slice sl_list (pv 0) (po_some (pe_op op_add (pv 2) pe_int)) po_none)))) pss_nil)
      (pss_cons (ps_if (pt_cmpR op_eq (pv 5) pe_int (nomark _)) (pss_one (ps_ret (pe_op op_cat (pe_op op_cat (pe_slice sl_list (pv 0) po_none (po_some (pv 2))) (pe_lst (WP.pa_consN (pe_op op_catT (pe_op op_catT (pe_slice sl_tup (pv 3) po_none (po_some pe_int)) (pe_tup (WP.pa_consN (pe_tup (WP.pa_consN (WP.pe_strL [116, 101, 120, 116] (by decide +kernel)) (WP.pa_consN pe_int pa_nil))) pa_nil))) (pe_slice sl_tup (pv 3) (po_some pe_int) po_none)) pa_nil))) (pe_slice sl_list (pv 0) (po_some (pe_op op_add (pv 2) pe_int)) po_none)))) pss_nil)
      (pss_cons (ps_if (pt_cmpR op_eq (pv 5) pe_int (nomark _)) (pss_one (ps_ret (pe_op op_cat (pe_slice sl_list (pv 0) po_none (po_some (pv 2))) (pe_slice sl_list (pv 0) (po_some (pe_op op_add (pv 2) pe_int)) po_none)))) pss_nil)
      (pss_one (ps_ret (pe_op op_cat (pe_slice sl_list (pv 0) po_none (po_some (pe_op op_add (pv 2) pe_int))) (pe_slice sl_list (pv 0) (po_some (pv 2)) po_none))))))))))))))), ?_⟩
    have lx := hR.1
    have l0 : 0 < rs.length := List.length_pos_iff.mpr hne
    k_updF
    refine WP.lenL (SqL.of hy) ?_
    k_updF
    refine WP.iC (by omega) ?_
    have a0 := Int.emod_nonneg r (show (xs.length : Int) ≠ 0 by omega)
    have a1 := Int.emod_lt_of_pos r (show (0 : Int) < (xs.length : Int) by omega)
    obtain ⟨i, hi⟩ : ∃ i : Nat, r % (xs.length : Int) = (i : Int) := ⟨(r % (xs.length : Int)).toNat, by omega⟩
    rw [hi] at a0 a1 ⊢
    k_updF
    obtain ⟨v, hv⟩ : ∃ v, xs[i]? = some v := ⟨_, List.getElem?_eq_getElem (by omega)⟩
    obtain ⟨q, hq, hrow⟩ := hR.get hv
    have hqok := hok q (List.mem_of_getElem? hq)
    obtain ⟨b, pv, vv, rfl, hb, hpv, hvv⟩ := hrow
    refine WP.ixL (SqL.of hy) (atI_nat hv) ?_
    k_updF
    refine WP.iC ⟨by decide, by decide⟩ ?_
    k_updF
    refine WP.iC (by decide) ?_
    generalize r / 20 = rest
    k_updF
    refine WP.br (fun c0 => ?_) (fun c0 => ?_)
    · k_updF
      refine sl_to (SqL.of hy) (by omega) (fun v1 G1 e1 h1 => ?_)
      have t := e1
      k_updF
      refine ⟨WP.sz (show 6 ≤ 1000000 by decide), fun v2 wv2 => ?_⟩
      obtain ⟨G2, x2, e2, h2⟩ : ∃ G2, upd G1 v2 (.lst [.int 1, .int 2, .int 5, .int 6, .int 7, .int 9]) = G2 ∧ Same G1 G2 ∧ G2 v2 = some (.lst [.int 1, .int 2, .int 5, .int 6, .int 7, .int 9]) := ⟨_, rfl, WP.same_new wv2, upd_same⟩
      rw [x2]
      clear x2 wv2
      replace t := t.trans e2
      replace h1 := e2 _ _ h1
      k_updF
      refine WP.iC ⟨by decide, by decide⟩ ?_
      k_updF
      refine WP.iC (by decide) ?_
      obtain ⟨lv, hlv, elv⟩ := WP.at_M (l := [1, 2, 5, 6, 7, 9]) (fun n : Nat => V.int (n : Int)) (Int.emod_nonneg (rest / 9) (show (6 : Int) ≠ 0 by decide)) (Int.emod_lt_of_pos (rest / 9) (show (0 : Int) < 6 by decide))
      refine WP.ixL (SqL.of h2) elv ?_
      have hlv9 := (show ∀ n ∈ [1, 2, 5, 6, 7, 9], 1 ≤ n ∧ n ≤ 9 by decide) lv hlv
      k_updF
      refine ⟨WP.sz (show 1 ≤ 1000000 by decide), fun v3 wv3 => ?_⟩
      obtain ⟨G3, x3, e3, h3⟩ : ∃ G3, upd G2 v3 (.tup [.int (lv : Int)]) = G3 ∧ Same G2 G3 ∧ G3 v3 = some (.tup [.int (lv : Int)]) := ⟨_, rfl, WP.same_new wv3, upd_same⟩
      rw [x3]
      clear x3 wv3
      replace t := t.trans e3
      replace h1 := e3 _ _ h1
      replace h2 := e3 _ _ h2
      k_updF
      refine sl_t (WP.sqt t hb) (fun v4 G4 e4 h4 => ?_) (by show ¬ (HT.sIx 5 0 (some 1) = 0 ∧ HT.sIx 5 5 none = 5); decide)
      replace t := t.trans e4
      replace h1 := e4 _ _ h1
      replace h2 := e4 _ _ h2
      replace h3 := e4 _ _ h3
      refine cat_t (SqT.of h3) (SqT.of h4) (Nat.le_of_ble_eq_true rfl) (fun v5 G5 e5 h5 => ?_)
      replace t := t.trans e5
      replace h1 := e5 _ _ h1
      replace h2 := e5 _ _ h2
      replace h3 := e5 _ _ h3
      replace h4 := e5 _ _ h4
      k_updF
      refine ⟨WP.sz (show 1 ≤ 1000000 by decide), fun v6 wv6 => ?_⟩
      obtain ⟨G6, x6, e6, h6⟩ : ∃ G6, upd G5 v6 (.lst [.ref v5]) = G6 ∧ Same G5 G6 ∧ G6 v6 = some (.lst [.ref v5]) := ⟨_, rfl, WP.same_new wv6, upd_same⟩
      rw [x6]
      clear x6 wv6
      replace t := t.trans e6
      replace h1 := e6 _ _ h1
      replace h2 := e6 _ _ h2
      replace h3 := e6 _ _ h3
      replace h4 := e6 _ _ h4
      replace h5 := e6 _ _ h5
      refine cat_l h1 h6 (by rw [List.length_take]; show _ + 1 ≤ _; omega) (fun v7 G7 e7 h7 => ?_)
      replace t := t.trans e7
      replace h1 := e7 _ _ h1
      replace h2 := e7 _ _ h2
      replace h3 := e7 _ _ h3
      replace h4 := e7 _ _ h4
      replace h5 := e7 _ _ h5
      replace h6 := e7 _ _ h6
      k_updF
      refine sl_from (i := i + 1) (SqL.of (t _ _ hy)) (by omega) (by omega) (fun v8 G8 e8 h8 => ?_)
      replace t := t.trans e8
      replace h1 := e8 _ _ h1
      replace h2 := e8 _ _ h2
      replace h3 := e8 _ _ h3
      replace h4 := e8 _ _ h4
      replace h5 := e8 _ _ h5
      replace h6 := e8 _ _ h6
      replace h7 := e8 _ _ h7
      k_updF
      refine cat_l h7 h8 (by rw [List.length_append, List.length_take, List.length_drop]; show _ + 1 + _ ≤ _; omega) (fun v9 G9 e9 h9 => ?_)
      replace t := t.trans e9
      replace h1 := e9 _ _ h1
      replace h2 := e9 _ _ h2
      replace h3 := e9 _ _ h3
      replace h4 := e9 _ _ h4
      replace h5 := e9 _ _ h5
      replace h6 := e9 _ _ h6
      replace h7 := e9 _ _ h7
      replace h8 := e9 _ _ h8
      exact fin_row (q := ⟨lv, q.nm, q.pc, q.tm, q.vl⟩) k hR hok t ⟨v5, _, _, rfl, SqT.of h5, hpv.keep fun b us h => WP.sqt t h, hvv.keep fun b us h => WP.sqt t h⟩ ⟨hqok.nl, hqok.ne, hqok.nc, hqok.pc, hqok.tm, hlv9.2, hlv9.1, hqok.txt, hqok.dec⟩ (by omega) h9
    k_updF
    refine WP.br (fun c1 => ?_) (fun c1 => ?_)
    · k_updF
      refine sl_to (SqL.of hy) (by omega) (fun v1 G1 e1 h1 => ?_)
      have t := e1
      k_updF
      refine WP.ixT (WP.sqt t hb) WP.at0 ?_
      k_updF
      refine WP.iC ⟨by decide, by decide⟩ ?_
      k_updF
      refine WP.lenL (SqL.of (t _ _ hy)) ?_
      refine WP.iC (by omega) ?_
      have j0 := Int.emod_nonneg (rest / 9) (show (xs.length : Int) ≠ 0 by omega)
      have j1 := Int.emod_lt_of_pos (rest / 9) (show (0 : Int) < (xs.length : Int) by omega)
      obtain ⟨j, hj⟩ : ∃ j : Nat, rest / 9 % (xs.length : Int) = (j : Int) := ⟨(rest / 9 % (xs.length : Int)).toNat, by omega⟩
      rw [hj] at j0 j1 ⊢
      obtain ⟨u, hu⟩ : ∃ u, xs[j]? = some u := ⟨_, List.getElem?_eq_getElem (by omega)⟩
      obtain ⟨o, ho, b2, pu, vu, rfl, hb2, _, _⟩ := hR.get hu
      have hook := hok o (List.mem_of_getElem? ho)
      k_updF
      refine WP.ixL (SqL.of (t _ _ hy)) (atI_nat hu) ?_
      k_updF
      refine WP.ixT (WP.sqt t hb2) WP.at1 ?_
      k_updF
      refine ⟨WP.sz (show 2 ≤ 1000000 by decide), fun v2 wv2 => ?_⟩
      obtain ⟨G2, x2, e2, h2⟩ : ∃ G2, upd G1 v2 (.tup [.int (q.lv : Int), .str (SX.S o.nm)]) = G2 ∧ Same G1 G2 ∧ G2 v2 = some (.tup [.int (q.lv : Int), .str (SX.S o.nm)]) := ⟨_, rfl, WP.same_new wv2, upd_same⟩
      rw [x2]
      clear x2 wv2
      replace t := t.trans e2
      replace h1 := e2 _ _ h1
      k_updF
      refine sl_t (WP.sqt t hb) (fun v3 G3 e3 h3 => ?_) (by show ¬ (HT.sIx 5 0 (some 2) = 0 ∧ HT.sIx 5 5 none = 5); decide)
      replace t := t.trans e3
      replace h1 := e3 _ _ h1
      replace h2 := e3 _ _ h2
      refine cat_t (SqT.of h2) (SqT.of h3) (Nat.le_of_ble_eq_true rfl) (fun v4 G4 e4 h4 => ?_)
      replace t := t.trans e4
      replace h1 := e4 _ _ h1
      replace h2 := e4 _ _ h2
      replace h3 := e4 _ _ h3
      k_updF
      refine ⟨WP.sz (show 1 ≤ 1000000 by decide), fun v5 wv5 => ?_⟩
      obtain ⟨G5, x5, e5, h5⟩ : ∃ G5, upd G4 v5 (.lst [.ref v4]) = G5 ∧ Same G4 G5 ∧ G5 v5 = some (.lst [.ref v4]) := ⟨_, rfl, WP.same_new wv5, upd_same⟩
      rw [x5]
      clear x5 wv5
      replace t := t.trans e5
      replace h1 := e5 _ _ h1
      replace h2 := e5 _ _ h2
      replace h3 := e5 _ _ h3
      replace h4 := e5 _ _ h4
      refine cat_l h1 h5 (by rw [List.length_take]; show _ + 1 ≤ _; omega) (fun v6 G6 e6 h6 => ?_)
      replace t := t.trans e6
      replace h1 := e6 _ _ h1
      replace h2 := e6 _ _ h2
      replace h3 := e6 _ _ h3
      replace h4 := e6 _ _ h4
      replace h5 := e6 _ _ h5
      k_updF
      refine sl_from (i := i + 1) (SqL.of (t _ _ hy)) (by omega) (by omega) (fun v7 G7 e7 h7 => ?_)
      replace t := t.trans e7
      replace h1 := e7 _ _ h1
      replace h2 := e7 _ _ h2
      replace h3 := e7 _ _ h3
      replace h4 := e7 _ _ h4
      replace h5 := e7 _ _ h5
      replace h6 := e7 _ _ h6
      k_updF
      refine cat_l h6 h7 (by rw [List.length_append, List.length_take, List.length_drop]; show _ + 1 + _ ≤ _; omega) (fun v8 G8 e8 h8 => ?_)
      replace t := t.trans e8
      replace h1 := e8 _ _ h1
      replace h2 := e8 _ _ h2
      replace h3 := e8 _ _ h3
      replace h4 := e8 _ _ h4
      replace h5 := e8 _ _ h5
      replace h6 := e8 _ _ h6
      replace h7 := e8 _ _ h7
      exact fin_row (q := ⟨q.lv, o.nm, q.pc, q.tm, q.vl⟩) k hR hok t ⟨v4, _, _, rfl, SqT.of h4, hpv.keep fun b us h => WP.sqt t h, hvv.keep fun b us h => WP.sqt t h⟩ ⟨hook.nl, hook.ne, hook.nc, hqok.pc, hqok.tm, hqok.lv, hqok.l1, hqok.txt, hqok.dec⟩ (by omega) h8
    k_updF
    refine WP.br (fun c2 => ?_) (fun c2 => ?_)
    · k_updF
      refine sl_to (SqL.of hy) (by omega) (fun v1 G1 e1 h1 => ?_)
      have t := e1
      k_updF
      refine sl_t (WP.sqt t hb) (fun v2 G2 e2 h2 => ?_) (by show ¬ (HT.sIx 5 0 none = 0 ∧ HT.sIx 5 5 (some 3) = 5); decide)
      replace t := t.trans e2
      replace h1 := e2 _ _ h1
      k_updF
      refine WP.iC ⟨by decide, by decide⟩ ?_
      k_updF
      refine WP.iC (by decide) ?_
      k_updF
      have j0 := Int.emod_nonneg (rest / 9) (show (3 : Int) ≠ 0 by decide)
      have j1 := Int.emod_lt_of_pos (rest / 9) (show (0 : Int) < 3 by decide)
      obtain ⟨m, hm⟩ : ∃ m : Nat, 1 + rest / 9 % 3 = (m : Int) := ⟨(1 + rest / 9 % 3).toNat, by omega⟩
      rw [hm]
      refine ⟨WP.sz (show 1 ≤ 1000000 by decide), fun v3 wv3 => ?_⟩
      obtain ⟨G3, x3, e3, h3⟩ : ∃ G3, upd G2 v3 (.tup [.int (m : Int)]) = G3 ∧ Same G2 G3 ∧ G3 v3 = some (.tup [.int (m : Int)]) := ⟨_, rfl, WP.same_new wv3, upd_same⟩
      rw [x3]
      clear x3 wv3
      replace t := t.trans e3
      replace h1 := e3 _ _ h1
      replace h2 := e3 _ _ h2
      refine cat_t (SqT.of h2) (SqT.of h3) (Nat.le_of_ble_eq_true rfl) (fun v4 G4 e4 h4 => ?_)
      replace t := t.trans e4
      replace h1 := e4 _ _ h1
      replace h2 := e4 _ _ h2
      replace h3 := e4 _ _ h3
      k_updF
      refine sl_t (WP.sqt t hb) (fun v5 G5 e5 h5 => ?_) (by show ¬ (HT.sIx 5 0 (some 4) = 0 ∧ HT.sIx 5 5 none = 5); decide)
      replace t := t.trans e5
      replace h1 := e5 _ _ h1
      replace h2 := e5 _ _ h2
      replace h3 := e5 _ _ h3
      replace h4 := e5 _ _ h4
      refine cat_t (SqT.of h4) (SqT.of h5) (Nat.le_of_ble_eq_true rfl) (fun v6 G6 e6 h6 => ?_)
      replace t := t.trans e6
      replace h1 := e6 _ _ h1
      replace h2 := e6 _ _ h2
      replace h3 := e6 _ _ h3
      replace h4 := e6 _ _ h4
      replace h5 := e6 _ _ h5
      k_updF
      refine ⟨WP.sz (show 1 ≤ 1000000 by decide), fun v7 wv7 => ?_⟩
      obtain ⟨G7, x7, e7, h7⟩ : ∃ G7, upd G6 v7 (.lst [.ref v6]) = G7 ∧ Same G6 G7 ∧ G7 v7 = some (.lst [.ref v6]) := ⟨_, rfl, WP.same_new wv7, upd_same⟩
      rw [x7]
      clear x7 wv7
      replace t := t.trans e7
      replace h1 := e7 _ _ h1
      replace h2 := e7 _ _ h2
      replace h3 := e7 _ _ h3
      replace h4 := e7 _ _ h4
      replace h5 := e7 _ _ h5
      replace h6 := e7 _ _ h6
      refine cat_l h1 h7 (by rw [List.length_take]; show _ + 1 ≤ _; omega) (fun v8 G8 e8 h8 => ?_)
      replace t := t.trans e8
      replace h1 := e8 _ _ h1
      replace h2 := e8 _ _ h2
      replace h3 := e8 _ _ h3
      replace h4 := e8 _ _ h4
      replace h5 := e8 _ _ h5
      replace h6 := e8 _ _ h6
      replace h7 := e8 _ _ h7
      k_updF
      refine sl_from (i := i + 1) (SqL.of (t _ _ hy)) (by omega) (by omega) (fun v9 G9 e9 h9 => ?_)
      replace t := t.trans e9
      replace h1 := e9 _ _ h1
      replace h2 := e9 _ _ h2
      replace h3 := e9 _ _ h3
      replace h4 := e9 _ _ h4
      replace h5 := e9 _ _ h5
      replace h6 := e9 _ _ h6
      replace h7 := e9 _ _ h7
      replace h8 := e9 _ _ h8
      k_updF
      refine cat_l h8 h9 (by rw [List.length_append, List.length_take, List.length_drop]; show _ + 1 + _ ≤ _; omega) (fun v10 G10 e10 h10 => ?_)
      replace t := t.trans e10
      replace h1 := e10 _ _ h1
      replace h2 := e10 _ _ h2
      replace h3 := e10 _ _ h3
      replace h4 := e10 _ _ h4
      replace h5 := e10 _ _ h5
      replace h6 := e10 _ _ h6
      replace h7 := e10 _ _ h7
      replace h8 := e10 _ _ h8
      replace h9 := e10 _ _ h9
      exact fin_row (q := ⟨q.lv, q.nm, q.pc, m, q.vl⟩) k hR hok t ⟨v6, _, _, rfl, SqT.of h6, hpv.keep fun b us h => WP.sqt t h, hvv.keep fun b us h => WP.sqt t h⟩ ⟨hqok.nl, hqok.ne, hqok.nc, hqok.pc, by show m ≤ 3; omega, hqok.lv, hqok.l1, hqok.txt, hqok.dec⟩ (by omega) h10
    k_updF
    refine WP.br (fun c3 => ?_) (fun c3 => ?_)
    · k_updF
      refine ⟨WP.sz (show 2 ≤ 1000000 by decide), fun v1 wv1 => ?_⟩
      obtain ⟨G1, x1, e1, h1⟩ : ∃ G1, upd H v1 (.tup [.int 5, .int 0]) = G1 ∧ Same H G1 ∧ G1 v1 = some (.tup [.int 5, .int 0]) := ⟨_, rfl, WP.same_new wv1, upd_same⟩
      rw [x1]
      clear x1 wv1
      have t := e1
      k_updF
      refine ⟨WP.sz (show 2 ≤ 1000000 by decide), fun v2 wv2 => ?_⟩
      obtain ⟨G2, x2, e2, h2⟩ : ∃ G2, upd G1 v2 (.tup [.int (-5), .int 0]) = G2 ∧ Same G1 G2 ∧ G2 v2 = some (.tup [.int (-5), .int 0]) := ⟨_, rfl, WP.same_new wv2, upd_same⟩
      rw [x2]
      clear x2 wv2
      replace t := t.trans e2
      replace h1 := e2 _ _ h1
      k_updF
      refine ⟨WP.sz (show 2 ≤ 1000000 by decide), fun v3 wv3 => ?_⟩
      obtain ⟨G3, x3, e3, h3⟩ : ∃ G3, upd G2 v3 (.tup [.int 5, .int 3]) = G3 ∧ Same G2 G3 ∧ G3 v3 = some (.tup [.int 5, .int 3]) := ⟨_, rfl, WP.same_new wv3, upd_same⟩
      rw [x3]
      clear x3 wv3
      replace t := t.trans e3
      replace h1 := e3 _ _ h1
      replace h2 := e3 _ _ h2
      k_updF
      refine ⟨WP.sz (show 2 ≤ 1000000 by decide), fun v4 wv4 => ?_⟩
      obtain ⟨G4, x4, e4, h4⟩ : ∃ G4, upd G3 v4 (.tup [.int 123456789, .int 0]) = G4 ∧ Same G3 G4 ∧ G4 v4 = some (.tup [.int 123456789, .int 0]) := ⟨_, rfl, WP.same_new wv4, upd_same⟩
      rw [x4]
      clear x4 wv4
      replace t := t.trans e4
      replace h1 := e4 _ _ h1
      replace h2 := e4 _ _ h2
      replace h3 := e4 _ _ h3
      k_updF
      refine ⟨WP.sz (show 2 ≤ 1000000 by decide), fun v5 wv5 => ?_⟩
      obtain ⟨G5, x5, e5, h5⟩ : ∃ G5, upd G4 v5 (.tup [.int 0, .int 0]) = G5 ∧ Same G4 G5 ∧ G5 v5 = some (.tup [.int 0, .int 0]) := ⟨_, rfl, WP.same_new wv5, upd_same⟩
      rw [x5]
      clear x5 wv5
      replace t := t.trans e5
      replace h1 := e5 _ _ h1
      replace h2 := e5 _ _ h2
      replace h3 := e5 _ _ h3
      replace h4 := e5 _ _ h4
      k_updF
      refine ⟨WP.sz (show 8 ≤ 1000000 by decide), fun v6 wv6 => ?_⟩
      obtain ⟨G6, x6, e6, h6⟩ : ∃ G6, upd G5 v6 (.lst [.str (SX.S [97]), .str (SX.S [97, 98, 99, 100, 101, 102, 103, 104, 105, 106, 107, 108, 109, 110, 111]), .ref v1, .ref v2, .ref v3, .ref v4, .ref v5, .non]) = G6 ∧ Same G5 G6 ∧ G6 v6 = some (.lst [.str (SX.S [97]), .str (SX.S [97, 98, 99, 100, 101, 102, 103, 104, 105, 106, 107, 108, 109, 110, 111]), .ref v1, .ref v2, .ref v3, .ref v4, .ref v5, .non]) := ⟨_, rfl, WP.same_new wv6, upd_same⟩
      rw [x6]
      clear x6 wv6
      replace t := t.trans e6
      replace h1 := e6 _ _ h1
      replace h2 := e6 _ _ h2
      replace h3 := e6 _ _ h3
      replace h4 := e6 _ _ h4
      replace h5 := e6 _ _ h5
      k_updF
      refine WP.iC ⟨by decide, by decide⟩ ?_
      k_updF
      refine WP.iC (by decide) ?_
      obtain ⟨nv, vl, hnv, hvl, hbd⟩ := vals8 (K := K) h1 h2 h3 h4 h5 (Int.emod_nonneg (rest / 9) (show (8 : Int) ≠ 0 by decide)) (Int.emod_lt_of_pos (rest / 9) (show (0 : Int) < 8 by decide))
      refine WP.ixL (SqL.of h6) hnv ?_
      k_updF
      refine sl_to (SqL.of (t _ _ hy)) (by omega) (fun v7 G7 e7 h7 => ?_)
      replace t := t.trans e7
      replace h1 := e7 _ _ h1
      replace h2 := e7 _ _ h2
      replace h3 := e7 _ _ h3
      replace h4 := e7 _ _ h4
      replace h5 := e7 _ _ h5
      replace h6 := e7 _ _ h6
      replace hvl := hvl.keep fun b us h => WP.sqt e7 h
      k_updF
      refine sl_t (WP.sqt t hb) (fun v8 G8 e8 h8 => ?_) (by show ¬ (HT.sIx 5 0 none = 0 ∧ HT.sIx 5 5 (some 4) = 5); decide)
      replace t := t.trans e8
      replace h1 := e8 _ _ h1
      replace h2 := e8 _ _ h2
      replace h3 := e8 _ _ h3
      replace h4 := e8 _ _ h4
      replace h5 := e8 _ _ h5
      replace h6 := e8 _ _ h6
      replace h7 := e8 _ _ h7
      replace hvl := hvl.keep fun b us h => WP.sqt e8 h
      k_updF
      refine ⟨WP.sz (show 1 ≤ 1000000 by decide), fun v9 wv9 => ?_⟩
      obtain ⟨G9, x9, e9, h9⟩ : ∃ G9, upd G8 v9 (.tup [nv]) = G9 ∧ Same G8 G9 ∧ G9 v9 = some (.tup [nv]) := ⟨_, rfl, WP.same_new wv9, upd_same⟩
      rw [x9]
      clear x9 wv9
      replace t := t.trans e9
      replace h1 := e9 _ _ h1
      replace h2 := e9 _ _ h2
      replace h3 := e9 _ _ h3
      replace h4 := e9 _ _ h4
      replace h5 := e9 _ _ h5
      replace h6 := e9 _ _ h6
      replace h7 := e9 _ _ h7
      replace h8 := e9 _ _ h8
      replace hvl := hvl.keep fun b us h => WP.sqt e9 h
      refine cat_t (SqT.of h8) (SqT.of h9) (Nat.le_of_ble_eq_true rfl) (fun v10 G10 e10 h10 => ?_)
      replace t := t.trans e10
      replace h1 := e10 _ _ h1
      replace h2 := e10 _ _ h2
      replace h3 := e10 _ _ h3
      replace h4 := e10 _ _ h4
      replace h5 := e10 _ _ h5
      replace h6 := e10 _ _ h6
      replace h7 := e10 _ _ h7
      replace h8 := e10 _ _ h8
      replace h9 := e10 _ _ h9
      replace hvl := hvl.keep fun b us h => WP.sqt e10 h
      k_updF
      refine ⟨WP.sz (show 1 ≤ 1000000 by decide), fun v11 wv11 => ?_⟩
      obtain ⟨G11, x11, e11, h11⟩ : ∃ G11, upd G10 v11 (.lst [.ref v10]) = G11 ∧ Same G10 G11 ∧ G11 v11 = some (.lst [.ref v10]) := ⟨_, rfl, WP.same_new wv11, upd_same⟩
      rw [x11]
      clear x11 wv11
      replace t := t.trans e11
      replace h1 := e11 _ _ h1
      replace h2 := e11 _ _ h2
      replace h3 := e11 _ _ h3
      replace h4 := e11 _ _ h4
      replace h5 := e11 _ _ h5
      replace h6 := e11 _ _ h6
      replace h7 := e11 _ _ h7
      replace h8 := e11 _ _ h8
      replace h9 := e11 _ _ h9
      replace h10 := e11 _ _ h10
      replace hvl := hvl.keep fun b us h => WP.sqt e11 h
      refine cat_l h7 h11 (by rw [List.length_take]; show _ + 1 ≤ _; omega) (fun v12 G12 e12 h12 => ?_)
      replace t := t.trans e12
      replace h1 := e12 _ _ h1
      replace h2 := e12 _ _ h2
      replace h3 := e12 _ _ h3
      replace h4 := e12 _ _ h4
      replace h5 := e12 _ _ h5
      replace h6 := e12 _ _ h6
      replace h7 := e12 _ _ h7
      replace h8 := e12 _ _ h8
      replace h9 := e12 _ _ h9
      replace h10 := e12 _ _ h10
      replace h11 := e12 _ _ h11
      replace hvl := hvl.keep fun b us h => WP.sqt e12 h
      k_updF
      refine sl_from (i := i + 1) (SqL.of (t _ _ hy)) (by omega) (by omega) (fun v13 G13 e13 h13 => ?_)
      replace t := t.trans e13
      replace h1 := e13 _ _ h1
      replace h2 := e13 _ _ h2
      replace h3 := e13 _ _ h3
      replace h4 := e13 _ _ h4
      replace h5 := e13 _ _ h5
      replace h6 := e13 _ _ h6
      replace h7 := e13 _ _ h7
      replace h8 := e13 _ _ h8
      replace h9 := e13 _ _ h9
      replace h10 := e13 _ _ h10
      replace h11 := e13 _ _ h11
      replace h12 := e13 _ _ h12
      replace hvl := hvl.keep fun b us h => WP.sqt e13 h
      k_updF
      refine cat_l h12 h13 (by rw [List.length_append, List.length_take, List.length_drop]; show _ + 1 + _ ≤ _; omega) (fun v14 G14 e14 h14 => ?_)
      replace t := t.trans e14
      replace h1 := e14 _ _ h1
      replace h2 := e14 _ _ h2
      replace h3 := e14 _ _ h3
      replace h4 := e14 _ _ h4
      replace h5 := e14 _ _ h5
      replace h6 := e14 _ _ h6
      replace h7 := e14 _ _ h7
      replace h8 := e14 _ _ h8
      replace h9 := e14 _ _ h9
      replace h10 := e14 _ _ h10
      replace h11 := e14 _ _ h11
      replace h12 := e14 _ _ h12
      replace h13 := e14 _ _ h13
      replace hvl := hvl.keep fun b us h => WP.sqt e14 h
      exact fin_row (q := ⟨q.lv, q.nm, q.pc, q.tm, vl⟩) k hR hok t ⟨v10, _, _, rfl, SqT.of h10, hpv.keep fun b us h => WP.sqt t h, hvl⟩ ⟨hqok.nl, hqok.ne, hqok.nc, hqok.pc, hqok.tm, hqok.lv, hqok.l1, hbd.1, hbd.2⟩ (by omega) h14
    k_updF
    refine WP.br (fun c4 => ?_) (fun c4 => ?_)
    · k_updF
      refine sl_to (SqL.of hy) (by omega) (fun v1 G1 e1 h1 => ?_)
      have t := e1
      k_updF
      refine sl_t (WP.sqt t hb) (fun v2 G2 e2 h2 => ?_) (by show ¬ (HT.sIx 5 0 none = 0 ∧ HT.sIx 5 5 (some 2) = 5); decide)
      replace t := t.trans e2
      replace h1 := e2 _ _ h1
      k_updF
      refine ⟨WP.sz (show 1 ≤ 1000000 by decide), fun v3 wv3 => ?_⟩
      obtain ⟨G3, x3, e3, h3⟩ : ∃ G3, upd G2 v3 (.tup [.non]) = G3 ∧ Same G2 G3 ∧ G3 v3 = some (.tup [.non]) := ⟨_, rfl, WP.same_new wv3, upd_same⟩
      rw [x3]
      clear x3 wv3
      replace t := t.trans e3
      replace h1 := e3 _ _ h1
      replace h2 := e3 _ _ h2
      refine cat_t (SqT.of h2) (SqT.of h3) (Nat.le_of_ble_eq_true rfl) (fun v4 G4 e4 h4 => ?_)
      replace t := t.trans e4
      replace h1 := e4 _ _ h1
      replace h2 := e4 _ _ h2
      replace h3 := e4 _ _ h3
      k_updF
      refine sl_t (WP.sqt t hb) (fun v5 G5 e5 h5 => ?_) (by show ¬ (HT.sIx 5 0 (some 3) = 0 ∧ HT.sIx 5 5 none = 5); decide)
      replace t := t.trans e5
      replace h1 := e5 _ _ h1
      replace h2 := e5 _ _ h2
      replace h3 := e5 _ _ h3
      replace h4 := e5 _ _ h4
      refine cat_t (SqT.of h4) (SqT.of h5) (Nat.le_of_ble_eq_true rfl) (fun v6 G6 e6 h6 => ?_)
      replace t := t.trans e6
      replace h1 := e6 _ _ h1
      replace h2 := e6 _ _ h2
      replace h3 := e6 _ _ h3
      replace h4 := e6 _ _ h4
      replace h5 := e6 _ _ h5
      k_updF
      refine ⟨WP.sz (show 1 ≤ 1000000 by decide), fun v7 wv7 => ?_⟩
      obtain ⟨G7, x7, e7, h7⟩ : ∃ G7, upd G6 v7 (.lst [.ref v6]) = G7 ∧ Same G6 G7 ∧ G7 v7 = some (.lst [.ref v6]) := ⟨_, rfl, WP.same_new wv7, upd_same⟩
      rw [x7]
      clear x7 wv7
      replace t := t.trans e7
      replace h1 := e7 _ _ h1
      replace h2 := e7 _ _ h2
      replace h3 := e7 _ _ h3
      replace h4 := e7 _ _ h4
      replace h5 := e7 _ _ h5
      replace h6 := e7 _ _ h6
      refine cat_l h1 h7 (by rw [List.length_take]; show _ + 1 ≤ _; omega) (fun v8 G8 e8 h8 => ?_)
      replace t := t.trans e8
      replace h1 := e8 _ _ h1
      replace h2 := e8 _ _ h2
      replace h3 := e8 _ _ h3
      replace h4 := e8 _ _ h4
      replace h5 := e8 _ _ h5
      replace h6 := e8 _ _ h6
      replace h7 := e8 _ _ h7
      k_updF
      refine sl_from (i := i + 1) (SqL.of (t _ _ hy)) (by omega) (by omega) (fun v9 G9 e9 h9 => ?_)
      replace t := t.trans e9
      replace h1 := e9 _ _ h1
      replace h2 := e9 _ _ h2
      replace h3 := e9 _ _ h3
      replace h4 := e9 _ _ h4
      replace h5 := e9 _ _ h5
      replace h6 := e9 _ _ h6
      replace h7 := e9 _ _ h7
      replace h8 := e9 _ _ h8
      k_updF
      refine cat_l h8 h9 (by rw [List.length_append, List.length_take, List.length_drop]; show _ + 1 + _ ≤ _; omega) (fun v10 G10 e10 h10 => ?_)
      replace t := t.trans e10
      replace h1 := e10 _ _ h1
      replace h2 := e10 _ _ h2
      replace h3 := e10 _ _ h3
      replace h4 := e10 _ _ h4
      replace h5 := e10 _ _ h5
      replace h6 := e10 _ _ h6
      replace h7 := e10 _ _ h7
      replace h8 := e10 _ _ h8
      replace h9 := e10 _ _ h9
      exact fin_row (q := ⟨q.lv, q.nm, none, q.tm, q.vl⟩) k hR hok t ⟨v6, _, _, rfl, SqT.of h6, rfl, hvv.keep fun b us h => WP.sqt t h⟩ ⟨hqok.nl, hqok.ne, hqok.nc, (fun x z => nomatch z), hqok.tm, hqok.lv, hqok.l1, hqok.txt, hqok.dec⟩ (by omega) h10
    k_updF
    refine WP.br (fun c5 => ?_) (fun c5 => ?_)
    · k_updF
      refine sl_to (SqL.of hy) (by omega) (fun v1 G1 e1 h1 => ?_)
      have t := e1
      k_updF
      refine sl_t (WP.sqt t hb) (fun v2 G2 e2 h2 => ?_) (by show ¬ (HT.sIx 5 0 none = 0 ∧ HT.sIx 5 5 (some 2) = 5); decide)
      replace t := t.trans e2
      replace h1 := e2 _ _ h1
      k_updF
      refine ⟨WP.sz (show 2 ≤ 1000000 by decide), fun v3 wv3 => ?_⟩
      obtain ⟨G3, x3, e3, h3⟩ : ∃ G3, upd G2 v3 (.tup [.str (SX.S [116, 101, 120, 116]), .int 3]) = G3 ∧ Same G2 G3 ∧ G3 v3 = some (.tup [.str (SX.S [116, 101, 120, 116]), .int 3]) := ⟨_, rfl, WP.same_new wv3, upd_same⟩
      rw [x3]
      clear x3 wv3
      replace t := t.trans e3
      replace h1 := e3 _ _ h1
      replace h2 := e3 _ _ h2
      k_updF
      refine ⟨WP.sz (show 1 ≤ 1000000 by decide), fun v4 wv4 => ?_⟩
      obtain ⟨G4, x4, e4, h4⟩ : ∃ G4, upd G3 v4 (.tup [.ref v3]) = G4 ∧ Same G3 G4 ∧ G4 v4 = some (.tup [.ref v3]) := ⟨_, rfl, WP.same_new wv4, upd_same⟩
      rw [x4]
      clear x4 wv4
      replace t := t.trans e4
      replace h1 := e4 _ _ h1
      replace h2 := e4 _ _ h2
      replace h3 := e4 _ _ h3
      refine cat_t (SqT.of h2) (SqT.of h4) (Nat.le_of_ble_eq_true rfl) (fun v5 G5 e5 h5 => ?_)
      replace t := t.trans e5
      replace h1 := e5 _ _ h1
      replace h2 := e5 _ _ h2
      replace h3 := e5 _ _ h3
      replace h4 := e5 _ _ h4
      k_updF
      refine sl_t (WP.sqt t hb) (fun v6 G6 e6 h6 => ?_) (by show ¬ (HT.sIx 5 0 (some 3) = 0 ∧ HT.sIx 5 5 none = 5); decide)
      replace t := t.trans e6
      replace h1 := e6 _ _ h1
      replace h2 := e6 _ _ h2
      replace h3 := e6 _ _ h3
      replace h4 := e6 _ _ h4
      replace h5 := e6 _ _ h5
      refine cat_t (SqT.of h5) (SqT.of h6) (Nat.le_of_ble_eq_true rfl) (fun v7 G7 e7 h7 => ?_)
      replace t := t.trans e7
      replace h1 := e7 _ _ h1
      replace h2 := e7 _ _ h2
      replace h3 := e7 _ _ h3
      replace h4 := e7 _ _ h4
      replace h5 := e7 _ _ h5
      replace h6 := e7 _ _ h6
      k_updF
      refine ⟨WP.sz (show 1 ≤ 1000000 by decide), fun v8 wv8 => ?_⟩
      obtain ⟨G8, x8, e8, h8⟩ : ∃ G8, upd G7 v8 (.lst [.ref v7]) = G8 ∧ Same G7 G8 ∧ G8 v8 = some (.lst [.ref v7]) := ⟨_, rfl, WP.same_new wv8, upd_same⟩
      rw [x8]
      clear x8 wv8
      replace t := t.trans e8
      replace h1 := e8 _ _ h1
      replace h2 := e8 _ _ h2
      replace h3 := e8 _ _ h3
      replace h4 := e8 _ _ h4
      replace h5 := e8 _ _ h5
      replace h6 := e8 _ _ h6
      replace h7 := e8 _ _ h7
      refine cat_l h1 h8 (by rw [List.length_take]; show _ + 1 ≤ _; omega) (fun v9 G9 e9 h9 => ?_)
      replace t := t.trans e9
      replace h1 := e9 _ _ h1
      replace h2 := e9 _ _ h2
      replace h3 := e9 _ _ h3
      replace h4 := e9 _ _ h4
      replace h5 := e9 _ _ h5
      replace h6 := e9 _ _ h6
      replace h7 := e9 _ _ h7
      replace h8 := e9 _ _ h8
      k_updF
      refine sl_from (i := i + 1) (SqL.of (t _ _ hy)) (by omega) (by omega) (fun v10 G10 e10 h10 => ?_)
      replace t := t.trans e10
      replace h1 := e10 _ _ h1
      replace h2 := e10 _ _ h2
      replace h3 := e10 _ _ h3
      replace h4 := e10 _ _ h4
      replace h5 := e10 _ _ h5
      replace h6 := e10 _ _ h6
      replace h7 := e10 _ _ h7
      replace h8 := e10 _ _ h8
      replace h9 := e10 _ _ h9
      k_updF
      refine cat_l h9 h10 (by rw [List.length_append, List.length_take, List.length_drop]; show _ + 1 + _ ≤ _; omega) (fun v11 G11 e11 h11 => ?_)
      replace t := t.trans e11
      replace h1 := e11 _ _ h1
      replace h2 := e11 _ _ h2
      replace h3 := e11 _ _ h3
      replace h4 := e11 _ _ h4
      replace h5 := e11 _ _ h5
      replace h6 := e11 _ _ h6
      replace h7 := e11 _ _ h7
      replace h8 := e11 _ _ h8
      replace h9 := e11 _ _ h9
      replace h10 := e11 _ _ h10
      exact fin_row (q := ⟨q.lv, q.nm, some (.txt 3), q.tm, q.vl⟩) k hR hok t ⟨v7, _, _, rfl, SqT.of h7, ⟨v3, rfl, SqT.of h3⟩, hvv.keep fun b us h => WP.sqt t h⟩ ⟨hqok.nl, hqok.ne, hqok.nc, (fun x z => by cases z; exact ⟨(fun q z => nomatch z), by decide⟩), hqok.tm, hqok.lv, hqok.l1, hqok.txt, hqok.dec⟩ (by omega) h11
    k_updF
    refine WP.br (fun c6 => ?_) (fun c6 => ?_)
    · k_updF
      refine sl_to (SqL.of hy) (by omega) (fun v1 G1 e1 h1 => ?_)
      have t := e1
      k_updF
      refine sl_from (i := i + 1) (SqL.of (t _ _ hy)) (by omega) (by omega) (fun v2 G2 e2 h2 => ?_)
      replace t := t.trans e2
      replace h1 := e2 _ _ h1
      k_updF
      refine cat_l h1 h2 (by rw [List.length_take, List.length_drop]; omega) (fun v3 G3 e3 h3 => ?_)
      replace t := t.trans e3
      replace h1 := e3 _ _ h1
      replace h2 := e3 _ _ h2
      have hR2 : ML.RwA K G3 xs rs := hR.keep fun b us h => WP.sqt t h
      refine k _ _ (rs.take i ++ rs.drop (i + 1)) G3 t h3 ((hR2.take i).app (hR2.drop _)) (by rw [List.length_append, List.length_take, List.length_drop]; omega) fun r h => ?_
      rcases List.mem_append.mp h with h | h
      · exact hok r (List.mem_of_mem_take h)
      · exact hok r (List.mem_of_mem_drop h)
    k_updF
    refine sl_to (i := i + 1) (SqL.of hy) (by omega) (fun v1 G1 e1 h1 => ?_)
    have t := e1
    k_updF
    refine sl_from (i := i) (SqL.of (t _ _ hy)) (by omega) (by omega) (fun v2 G2 e2 h2 => ?_)
    replace t := t.trans e2
    replace h1 := e2 _ _ h1
    k_updF
    refine cat_l h1 h2 (by rw [List.length_take, List.length_drop]; omega) (fun v3 G3 e3 h3 => ?_)
    replace t := t.trans e3
    replace h1 := e3 _ _ h1
    replace h2 := e3 _ _ h2
    have hR2 : ML.RwA K G3 xs rs := hR.keep fun b us h => WP.sqt t h
    refine k _ _ (rs.take (i + 1) ++ rs.drop i) G3 t h3 ((hR2.take _).app (hR2.drop _)) (by rw [List.length_append, List.length_take, List.length_drop]; omega) fun r h => ?_
    rcases List.mem_append.mp h with h | h
    · exact hok r (List.mem_of_mem_take h)
    · exact hok r (List.mem_of_mem_drop h)
end
abbrev s_law : Stmt := top 46
abbrev N_law : List Str := ["script", "rows", "k", "great"]
theorem sc_law : FnScope N_law ["script"] (defScope s_law) := ⟨rfl, rfl, rfl, by decide +kernel, rfl, by decide +kernel, by decide +kernel⟩
theorem told_of {K : PySem.W.Frag} {mg : WP.MG} {H : Hp} {Q : VK} {E : XK} {a : Addr} {xs : List V} {rs : List ML.Row} {v w : ML.Tx} (h : H a = some (.lst xs)) (R : ML.RwA K H xs rs) (l : rs.length ≤ 100) (ok : ∀ r ∈ rs, ROk r)
    (hf : ∀ (k : Nat) (r : ML.Row), rs[k]? = some r → ML.flt rs k r ≠ [] → ML.okTo rs k → v = ML.flt rs k r ∧ w = r.nm) (hs : ML.okTo rs rs.length → ML.wsum rs ≤ 10 ^ 9 ∧ (4000 < ML.wsum rs → v = ML.SIZE ∧ w = []) ∧ (ML.wsum rs ≤ 4000 → v = [] ∧ w = []))
    (k : WP.RetT [.str (SX.S v), .str (SX.S w)] H Q) : sp__law_told K mg [.ref a] H Q E := by
  refine ⟨a, xs, rs, rfl, h, R, l, ok, fun j r g1 g2 g3 => ?_, fun hto => ?_⟩
  · obtain ⟨a1, a2⟩ := hf j r g1 g2 g3
    rw [← a1, ← a2]; exact k
  · obtain ⟨s1, s2, s3⟩ := hs hto
    refine ⟨s1, fun c => ?_, fun c => ?_⟩
    · obtain ⟨a1, a2⟩ := s2 c
      rw [← a1, ← a2]; rw [a2] at k ⊢; exact k
    · obtain ⟨a1, a2⟩ := s3 c
      rw [a1, a2] at k; exact k
theorem due_of {K : PySem.W.Frag} {mg : WP.MG} {H : Hp} {Q : VK} {E : XK} {a : Addr} {xs : List V} {rs : List ML.Row} {v w : ML.Tx} (h : H a = some (.lst xs)) (R : ML.RwA K H xs rs) (l : rs.length ≤ 40) (ok : ∀ r ∈ rs, LOk r) (hT : ML.Told rs v w)
    (k : WP.RetT [.str (SX.S v), .str (SX.S w)] H Q) : sp__law_due K mg [.ref a] H Q E := by
  refine ⟨a, xs, rs, rfl, h, R, l, ok, fun j r g1 g2 g3 => ?_, fun hto => ?_⟩
  · obtain ⟨a1, a2⟩ := hT.f j r g1 g2 g3
    rw [← a1, ← a2]; exact k
  · obtain ⟨a1, a2⟩ := hT.n hto
    rw [a1, a2] at k; exact k
def pd (v w : ML.Tx) : PyData := .tuple [.str (SX.S v), .str (SX.S w)]
theorem pd_dp {K : PySem.W.Frag} {H : Hp} {p : Addr} {v w : ML.Tx} (h : H p = some (.tup [.str (SX.S v), .str (SX.S w)])) : Dp K H (.ref p) (pd v w) := .tup (SqT.of h) (.cons (.str _) (.cons (.str _) .nil))
theorem pd_lay {v w : ML.Tx} (hv : ∀ c ∈ v, c < 128) (hw : ∀ c ∈ w, c < 128) : (pd v w).canLay0 = true := MR.and2 (WP.sok_S fun c hc => Nat.lt_trans (hv c hc) (by decide)) (MR.and2 (WP.sok_S fun c hc => Nat.lt_trans (hw c hc) (by decide)) rfl)
theorem pd_sh {v w : ML.Tx} (hv : ∀ c ∈ v, c < 128) (hw : ∀ c ∈ w, c < 128) : SeqAt.shaped (pd v w) = true := MR.and2 (pd_lay hv hw) rfl
theorem pd_rf {v w : ML.Tx} (hv : ∀ c ∈ v, c < 128) (hw : ∀ c ∈ w, c < 128) : PyData.eqv (pd v w) (pd v w) = true := SeqAt.eqv_refl _ (pd_lay hv hw)
theorem great_rok {n : Nat} (hn : n ≤ 41) : ∀ r ∈ ML.great n, ROk r := by
  intro r h
  rcases List.mem_cons.mp h with rfl | h
  · exact ⟨by decide, by decide, by decide, (fun x z => nomatch z), by decide, by decide, (fun t z => nomatch z), (fun u s z => nomatch z)⟩
  rcases List.mem_cons.mp h with rfl | h
  · exact ⟨by decide, by decide, by decide, (fun x z => nomatch z), by decide, by decide, (fun t z => nomatch z), (fun u s z => nomatch z)⟩
  rcases List.mem_cons.mp h with rfl | h
  · refine ⟨by show 1 ≤ 100; decide, by show [99] ≠ []; decide, by show ∀ c ∈ [99], c < 128; decide, fun x z => ?_, by show 2 ≤ 50; decide, by show 3 ≤ 60; decide, (fun t z => nomatch z), (fun u s z => nomatch z)⟩
    cases z
    exact ⟨(fun q z => nomatch z), by show n ≤ 200; omega⟩
  · cases h
def sp_law (K : PySem.W.Frag) : Sp := fun vs H Q _ => ∃ (a : Addr) (ns : List Int), vs = [.ref a] ∧ SqL K H a (ns.map V.int) ∧ ns.length ≤ 63 ∧ ∀ H', Q (.bl true) H'
section
variable {P : Program} {w : World} {K : PySem.W.Frag} {mg : Str → Option Value} {base : Heap}
theorem ok_law {f : Addr} {fd : FuncData} (F : Fun K "law" "law" s_law f fd) (B : Blt w K mg) (c__law_entries : WP.Callee P w K mg base CX0 3 "_law_entries" ["script"] (sp__law_entries K mg)) (c__law_told : WP.Callee P w K mg base CX0 9 "_law_told" ["rows"] (sp__law_told K mg)) (c__law_due : WP.Callee P w K mg base CX0 3 "_law_due" ["rows"] (sp__law_due K mg)) (c__law_cell : WP.Callee P w K mg base CX0 1 "_law_cell" ["script", "k"] (sp__law_cell K mg)) (c__law_changed : WP.Callee P w K mg base CX0 1 "_law_changed" ["rows", "rich"] (sp__law_changed K mg)) (c__law_rich : WP.Callee P w K mg base CX0 1 "_law_rich" ["cell", "k"] (sp__law_rich K mg)) : FnOk P w K mg base CX0 10 f fd ["script"] (sp_law K) := by
  refine F.ok sc_law (fun vs H Q E h => ?_) (fun cdv A outer s H vs Q E hr h => ?_)
  · first | (obtain ⟨_, rfl, _⟩ := h; rfl) | (obtain ⟨_, _, rfl, _⟩ := h; rfl) | (obtain ⟨_, _, _, rfl, _⟩ := h; rfl) | (obtain ⟨_, _, _, _, rfl, _⟩ := h; rfl) | (obtain ⟨_, _, _, _, _, rfl, _⟩ := h; rfl) | (obtain ⟨_, _, _, _, _, _, rfl, _⟩ := h; rfl) | (obtain ⟨_, _, _, _, _, _, _, rfl, _⟩ := h; rfl) | (obtain ⟨_, _, _, _, _, _, _, _, rfl, _⟩ := h; rfl) | (obtain ⟨rfl, _⟩ := h; rfl)
  · obtain ⟨a, ns, rfl, ha, _, k⟩ := h
    refine ⟨_, (pss_cons (ps_set (i := 1) sc_law.nd rfl (Or.inl rfl) (WP.pe_callC c__law_entries hr rfl pass0 (WP.pa_consN (pv 0) pa_nil)))
      (pss_cons (ps_for PassesOwn.never rfl (pi_range1 rfl B.b_range (WP.pa_consN (pe_op op_mod (WP.pe_callC c__law_cell hr rfl pass0 (WP.pa_consN (pv 0) (WP.pa_consN pe_int pa_nil))) pe_int) pa_nil)) (pg_name (i := 2) sc_law.nd rfl (Or.inl rfl)) (pss_one (ps_if (pt_cmpR op_gt (pe_callB WP.c_len (by rfl) B.b_len (by decide +kernel) (WP.pa_consN (pv 1) pa_nil)) pe_int (nomark _)) (pss_one (ps_set (i := 1) sc_law.nd rfl (Or.inl rfl) (WP.pe_callC c__law_changed hr rfl pass0 (WP.pa_consN (pv 1) (WP.pa_consN (WP.pe_callC c__law_rich hr rfl pass0 (WP.pa_consN (WP.pe_callC c__law_cell hr rfl pass0 (WP.pa_consN (pv 0) (WP.pa_consN (pe_op op_add pe_int (pv 2)) pa_nil))) (WP.pa_consN (pe_op op_add pe_int (pv 2)) pa_nil))) pa_nil))))) pss_nil)))
      (pss_cons (ps_if (pt_cmpR (op_neD hr.units) (WP.pe_callC c__law_told hr rfl pass0 (WP.pa_consN (pe_callTy WP.c_listOf (by rfl) B.b_list (by decide +kernel) (WP.pa_consN (pv 1) pa_nil)) pa_nil)) (WP.pe_callC c__law_due hr rfl pass0 (WP.pa_consN (pv 1) pa_nil)) (nomark _)) (pss_one (ps_ret pe_bl)) pss_nil)
      (pss_cons (ps_set (i := 3) sc_law.nd rfl (Or.inl rfl) (pe_lst (WP.pa_consN (pe_tup (WP.pa_consN pe_int (WP.pa_consN (WP.pe_strL [97] (by decide +kernel)) (WP.pa_consN pe_non (WP.pa_consN pe_int (WP.pa_consN pe_non pa_nil)))))) (WP.pa_consN (pe_tup (WP.pa_consN pe_int (WP.pa_consN (WP.pe_strL [98] (by decide +kernel)) (WP.pa_consN pe_non (WP.pa_consN pe_int (WP.pa_consN pe_non pa_nil)))))) (WP.pa_consN (pe_tup (WP.pa_consN pe_int (WP.pa_consN (WP.pe_strL [99] (by decide +kernel)) (WP.pa_consN (pe_tup (WP.pa_consN (WP.pe_strL [116, 101, 120, 116] (by decide +kernel)) (WP.pa_consN (pe_op op_add pe_int (pe_op op_mod (WP.pe_callC c__law_cell hr rfl pass0 (WP.pa_consN (pv 0) (WP.pa_consN pe_int pa_nil))) pe_int)) pa_nil))) (WP.pa_consN pe_int (WP.pa_consN pe_non pa_nil)))))) pa_nil)))))
      (pss_one (ps_ret (pe_cmpR (op_eqD hr.units) (WP.pe_callC c__law_told hr rfl pass0 (WP.pa_consN (pv 3) pa_nil)) (pe_ifExp (pt_cmpR op_eq (pe_op op_mod (WP.pe_callC c__law_cell hr rfl pass0 (WP.pa_consN (pv 0) (WP.pa_consN pe_int pa_nil))) pe_int) pe_int (nomark _)) (pe_tup (WP.pa_consN (WP.pe_strL [115, 105, 122, 101] (by decide +kernel)) (WP.pa_consN (WP.pe_strL [] (by decide +kernel)) pa_nil))) (pe_tup (WP.pa_consN (WP.pe_strL [] (by decide +kernel)) (WP.pa_consN (WP.pe_strL [] (by decide +kernel)) pa_nil)))) (nomark _)))))))), ?_⟩
    k_updF
    refine ⟨a, ns, rfl, ha, fun A xs rs H1 e1 h1 R1 l1 ok1 => ?_⟩
    k_updF
    refine ⟨a, ns, 5, rfl, WP.sql e1 ha, by decide, fun c5 hc5 => ?_⟩
    k_updF
    refine WP.iC (by decide) ?_
    k_updF
    have b0 := Int.emod_nonneg c5 (show (3 : Int) ≠ 0 by decide)
    have b1 := Int.emod_lt_of_pos c5 (show (0 : Int) < 3 by decide)
    refine ⟨_, rfl, by omega, by omega, for_range (lo := 0) (n := (c5 % 3).toNat) (fun i σ' H' => ∃ (z : Option V) (A : Addr) (xs : List V) (rs : List ML.Row), σ' = [some (.ref a), some (.ref A), z, none] ∧ Same H H' ∧ H' A = some (.lst xs) ∧ ML.RwA K H' xs rs ∧ rs.length ≤ 24 + i ∧ ∀ r ∈ rs, LOk r)
      ⟨none, A, xs, rs, rfl, e1, h1, R1, l1, ok1⟩ ?_ ?_⟩
    · clear e1 h1 R1 l1 ok1
      rintro i σ' H1 hi ⟨z, A, xs, rs, rfl, e1, h1, R1, l1, ok1⟩
      rw [Int.zero_add]
      k_updF
      refine WP.lenL (SqL.of h1) ?_
      k_updF
      have lx := R1.1
      refine WP.br (fun c => ?_) (fun c => ?_)
      · k_updF
        refine ⟨a, ns, _, rfl, WP.sql e1 ha, by omega, fun c6 _ => ?_⟩
        k_updF
        refine ⟨c6, 70 + i, rfl, fun r hr0 => ?_⟩
        k_updF
        refine ⟨A, r, xs, rs, rfl, hr0, h1, R1, by omega, (fun z => by rw [z] at lx; rw [lx] at c; exact absurd c (by decide)), ok1, fun A2 ys qs H2 e2 h2 R2 l2 ok2 => ?_⟩
        k_updF
        exact ⟨_, A2, ys, qs, rfl, e1.trans e2, h2, R2, by omega, ok2⟩
      · k_updF
        exact ⟨_, A, xs, rs, rfl, e1, h1, R1, by omega, ok1⟩
    clear e1 h1 R1 l1 ok1 xs rs A H1
    rintro σ' H1 ⟨z, A, xs, rs, rfl, e1, h1, R1, l1, ok1⟩
    have l26 : rs.length ≤ 26 := by omega
    clear l1 b0 b1
    have lx := R1.1
    obtain ⟨v, w, hT, hv, hw⟩ := ML.told_ex (rs := rs) fun r hr => (ok1 r hr).nc
    k_updF
    refine WP.listL (SqL.of h1) fun L hL => ?_
    have e2 : Same H1 (upd H1 L (.lst xs)) := WP.same_new hL
    have h2 : (upd H1 L (.lst xs)) L = some (.lst xs) := upd_same
    generalize upd H1 L _ = H2 at e2 h2 ⊢
    k_updF
    have hwl : ML.okTo rs rs.length → ML.wsum rs ≤ 3510 := fun h => ML.wsum_le h (by omega) (fun r hr => (ok1 r hr).tm) fun r hr => by
      unfold ML.isz
      cases e : r.pc with
      | none => exact Nat.zero_le _
      | some x => exact ((ok1 r hr).pc x e).2
    refine told_of h2 (R1.keep fun b us h => WP.sqt e2 h) (by omega) (fun r hr => (ok1 r hr).rok) hT.f (fun h => ⟨by have := hwl h; omega, fun c => absurd c (by have := hwl h; omega), fun _ => hT.n h⟩) fun p1 H3 e3 hp1 => ?_
    replace e2 := e2.trans e3
    k_updF
    refine due_of (e2 _ _ h1) (R1.keep fun b us h => WP.sqt e2 h) (by omega) ok1 hT fun p2 H4 e4 hp2 => ?_
    replace hp1 := e4 _ _ hp1
    replace e1 := e1.trans (e2.trans e4)
    clear e2 e3 h2 hL e4
    k_updF
    refine WP.neD (pd_dp hp1) (pd_dp hp2) ?_ (pd_sh hv hw) (pd_sh hv hw)
    rw [pd_rf hv hw]
    k_updF
    refine WP.brF rfl ?_
    clear hp1 hp2 hT hwl h1 R1 ok1 hv hw
    k_updF
    have e0 := e1
    have c50 := Int.emod_nonneg c5 (show (2 : Int) ≠ 0 by decide)
    have c51 := Int.emod_lt_of_pos c5 (show (0 : Int) < 2 by decide)
    obtain ⟨n, hn⟩ : ∃ n : Nat, 40 + c5 % 2 = (n : Int) := ⟨(40 + c5 % 2).toNat, by omega⟩
    refine ⟨WP.sz (show 5 ≤ 1000000 by decide), fun v1 wv1 => ?_⟩
    obtain ⟨G1, x1, e1, h1⟩ : ∃ G1, upd H4 v1 (.tup [.int 1, .str (SX.S [97]), .non, .int 0, .non]) = G1 ∧ Same H4 G1 ∧ G1 v1 = some (.tup [.int 1, .str (SX.S [97]), .non, .int 0, .non]) := ⟨_, rfl, WP.same_new wv1, upd_same⟩
    rw [x1]
    clear x1 wv1
    have t := e1
    k_updF
    refine ⟨WP.sz (show 5 ≤ 1000000 by decide), fun v2 wv2 => ?_⟩
    obtain ⟨G2, x2, e2, h2⟩ : ∃ G2, upd G1 v2 (.tup [.int 2, .str (SX.S [98]), .non, .int 50, .non]) = G2 ∧ Same G1 G2 ∧ G2 v2 = some (.tup [.int 2, .str (SX.S [98]), .non, .int 50, .non]) := ⟨_, rfl, WP.same_new wv2, upd_same⟩
    rw [x2]
    clear x2 wv2
    replace t := t.trans e2
    replace h1 := e2 _ _ h1
    k_updF
    refine ⟨a, ns, 5, rfl, WP.sql (e0.trans t) ha, by decide, fun c hc => ?_⟩
    rw [← hc5] at hc
    subst hc
    k_updF
    refine WP.iC (by decide) ?_
    k_updF
    rw [hn]
    refine ⟨WP.sz (show 2 ≤ 1000000 by decide), fun v3 wv3 => ?_⟩
    obtain ⟨G3, x3, e3, h3⟩ : ∃ G3, upd G2 v3 (.tup [.str (SX.S [116, 101, 120, 116]), .int (n : Int)]) = G3 ∧ Same G2 G3 ∧ G3 v3 = some (.tup [.str (SX.S [116, 101, 120, 116]), .int (n : Int)]) := ⟨_, rfl, WP.same_new wv3, upd_same⟩
    rw [x3]
    clear x3 wv3
    replace t := t.trans e3
    replace h1 := e3 _ _ h1
    replace h2 := e3 _ _ h2
    k_updF
    refine ⟨WP.sz (show 5 ≤ 1000000 by decide), fun v4 wv4 => ?_⟩
    obtain ⟨G4, x4, e4, h4⟩ : ∃ G4, upd G3 v4 (.tup [.int 3, .str (SX.S [99]), .ref v3, .int 2, .non]) = G4 ∧ Same G3 G4 ∧ G4 v4 = some (.tup [.int 3, .str (SX.S [99]), .ref v3, .int 2, .non]) := ⟨_, rfl, WP.same_new wv4, upd_same⟩
    rw [x4]
    clear x4 wv4
    replace t := t.trans e4
    replace h1 := e4 _ _ h1
    replace h2 := e4 _ _ h2
    replace h3 := e4 _ _ h3
    k_updF
    refine ⟨WP.sz (show 3 ≤ 1000000 by decide), fun v5 wv5 => ?_⟩
    obtain ⟨G5, x5, e5, h5⟩ : ∃ G5, upd G4 v5 (.lst [.ref v1, .ref v2, .ref v4]) = G5 ∧ Same G4 G5 ∧ G5 v5 = some (.lst [.ref v1, .ref v2, .ref v4]) := ⟨_, rfl, WP.same_new wv5, upd_same⟩
    rw [x5]
    clear x5 wv5
    replace t := t.trans e5
    replace h1 := e5 _ _ h1
    replace h2 := e5 _ _ h2
    replace h3 := e5 _ _ h3
    replace h4 := e5 _ _ h4
    k_updF
    have RG : ML.RwA K G5 [.ref v1, .ref v2, .ref v4] (ML.great n) := by
      refine ML.All2.app (vs := [.ref v1]) (rs := [_]) (.one ⟨v1, .non, .non, rfl, SqT.of h1, rfl, rfl⟩) (ML.All2.app (vs := [.ref v2]) (rs := [_]) (.one ⟨v2, .non, .non, rfl, SqT.of h2, rfl, rfl⟩) (.one ⟨v4, .ref v3, .non, rfl, SqT.of h4, ⟨_, rfl, SqT.of h3⟩, rfl⟩))
    have n41 : n ≤ 41 := by omega
    obtain ⟨v, w, hvw, hw2⟩ : ∃ v w : ML.Tx, (if c % 2 = 1 then v = ML.SIZE else v = []) ∧ w = [] := by
      by_cases z : c % 2 = 1
      · exact ⟨ML.SIZE, [], by rw [if_pos z], rfl⟩
      · exact ⟨[], [], by rw [if_neg z], rfl⟩
    have hv : ∀ c ∈ v, c < 128 := by
      by_cases z : c % 2 = 1
      · rw [if_pos z] at hvw; rw [hvw]; decide
      · rw [if_neg z] at hvw; rw [hvw]; simp
    have hw : ∀ c ∈ w, c < 128 := by rw [hw2]; simp
    refine told_of (v := v) (w := w) h5 RG (by show 3 ≤ 100; decide) (great_rok n41) (fun k r g1 g2 _ => absurd (ML.great_ok n k r (List.getElem?_eq_some_iff.mp g1).1 g1) g2) (fun _ => ?_) fun q1 F1 f1 hq1 => ?_
    · by_cases z : c % 2 = 1
      · rw [if_pos z] at hvw
        obtain rfl : n = 41 := by omega
        rw [ML.great_41]
        exact ⟨by decide, fun _ => ⟨hvw, hw2⟩, fun y => absurd y (by decide)⟩
      · rw [if_neg z] at hvw
        obtain rfl : n = 40 := by omega
        rw [ML.great_40]
        exact ⟨by decide, fun y => absurd y (by decide), fun _ => ⟨hvw, hw2⟩⟩
    k_updF
    refine ⟨a, ns, 5, rfl, WP.sql (e0.trans (t.trans f1)) ha, by decide, fun c2 hc2 => ?_⟩
    rw [← hc5] at hc2
    subst hc2
    k_updF
    refine WP.iC (by decide) ?_
    k_updF
    by_cases z1 : c2 % 2 = 1
    · rw [decide_eq_true z1]
      refine WP.brT rfl ?_
      k_updF
      refine ⟨WP.sz2, fun p hp => ?_⟩
      rw [if_pos z1] at hvw
      subst hvw hw2
      refine WP.eqD (pd_dp (WP.same_new hp _ _ hq1)) (pd_dp (v := ML.SIZE) (w := []) upd_same) ?_ (pd_sh hv hw) (pd_sh hv hw)
      rw [pd_rf hv hw]
      exact k _
    · rw [decide_eq_false z1]
      refine WP.brF rfl ?_
      k_updF
      refine ⟨WP.sz2, fun p hp => ?_⟩
      rw [if_neg z1] at hvw
      subst hvw hw2
      refine WP.eqD (pd_dp (WP.same_new hp _ _ hq1)) (pd_dp (v := []) (w := []) upd_same) ?_ (pd_sh hv hw) (pd_sh hv hw)
      rw [pd_rf hv hw]
      exact k _
end
theorem all_mk {l : PySem.W.OpenLaw} {w : World} {K : PySem.W.Frag} {h : Heap} {mg : Str → Option Value} {fa : Addr} (X : K.In h) (G : h.Ns mainGlobals mg) (hfa : mg "law" = some (.ref fa))
    {C_Item : Addr} (on_Item : PySem.W.nsIn K mainGlobals "Item" = some (some (.ref C_Item))) (og_Item : PySem.W.plainGet K C_Item Str.empty = true) (oh_Item : PySem.W.hasDictIn K C_Item = true) (oo_Item : PySem.W.plainOver K C_Item = true) (os_Item : PySem.W.findIn K (.ref C_Item) "__setattr__" = some (some (.builtin "object.__setattr__"))) (om_Item : PySem.W.makesIn K C_Item = true) (ok_Item : PySem.W.keepIn K (.ref C_Item) = true)
    (ot_Item_0 : PySem.W.findIn K (.ref C_Item) "name" = some none)
    (ot_Item_1 : PySem.W.findIn K (.ref C_Item) "picture" = some none)
    (ot_Item_2 : PySem.W.findIn K (.ref C_Item) "times" = some none)
    (ot_Item_3 : PySem.W.findIn K (.ref C_Item) "value" = some none)
    (ot_Item_4 : PySem.W.findIn K (.ref C_Item) "parent" = some none)
    (ot_Item_5 : PySem.W.findIn K (.ref C_Item) "offset" = some none)
    (ot_Item_6 : PySem.W.findIn K (.ref C_Item) "size" = some none)
    (ot_Item_7 : PySem.W.findIn K (.ref C_Item) "children" = some none)
    {C_Layout : Addr} (on_Layout : PySem.W.nsIn K mainGlobals "Layout" = some (some (.ref C_Layout))) (og_Layout : PySem.W.plainGet K C_Layout Str.empty = true) (oh_Layout : PySem.W.hasDictIn K C_Layout = true) (oo_Layout : PySem.W.plainOver K C_Layout = true) (os_Layout : PySem.W.findIn K (.ref C_Layout) "__setattr__" = some (some (.builtin "object.__setattr__"))) (om_Layout : PySem.W.makesIn K C_Layout = true) (ok_Layout : PySem.W.keepIn K (.ref C_Layout) = true)
    (ot_Layout_0 : PySem.W.findIn K (.ref C_Layout) "_items" = some none)
    (ot_Layout_1 : PySem.W.findIn K (.ref C_Layout) "_size" = some none)
    {C_BadData : Addr} (on_BadData : PySem.W.nsIn K mainGlobals "BadData" = some (some (.ref C_BadData))) (xo_BadData : L2.OexC K C_BadData) (xx_BadData : L2.XfC K C_BadData)
    (xc_BadData : L2.ExcC K C_BadData)
    (ot_BadData_0 : PySem.W.findIn K (.ref C_BadData) "reason" = some none)
    (ot_BadData_1 : PySem.W.findIn K (.ref C_BadData) "name" = some none)
    {fx0 : Addr} {odx0 anx0 : Option Addr} {slx0 : Array (Option Value)} {ocx0 kVx0 dcx0 pmx0 cdx0 ctx0 : Value}
    (ax0 : PySem.W.nsIn K mainGlobals "_law_rich" = some (some (.ref fx0))) (lx0 : K.lookup fx0 = some ⟨ocx0, odx0, .func (PySem.W.fnOf "_law_rich" "_law_rich" (defArgs s__law_rich) (defBody s__law_rich) (defScope s__law_rich) .none kVx0 dcx0 pmx0 anx0 cdx0 ctx0), slx0⟩) (cx0 : PySem.W.codeIn K cdx0 "_law_rich" = true) (kx0 : PySem.W.keepIn K (.ref fx0) = true)
    {fx1 : Addr} {odx1 anx1 : Option Addr} {slx1 : Array (Option Value)} {ocx1 kVx1 dcx1 pmx1 cdx1 ctx1 : Value}
    (ax1 : PySem.W.nsIn K mainGlobals "_law_cell" = some (some (.ref fx1))) (lx1 : K.lookup fx1 = some ⟨ocx1, odx1, .func (PySem.W.fnOf "_law_cell" "_law_cell" (defArgs s__law_cell) (defBody s__law_cell) (defScope s__law_cell) .none kVx1 dcx1 pmx1 anx1 cdx1 ctx1), slx1⟩) (cx1 : PySem.W.codeIn K cdx1 "_law_cell" = true) (kx1 : PySem.W.keepIn K (.ref fx1) = true)
    {fx2 : Addr} {odx2 anx2 : Option Addr} {slx2 : Array (Option Value)} {ocx2 kVx2 dcx2 pmx2 cdx2 ctx2 : Value}
    (ax2 : PySem.W.nsIn K mainGlobals "_law_picture" = some (some (.ref fx2))) (lx2 : K.lookup fx2 = some ⟨ocx2, odx2, .func (PySem.W.fnOf "_law_picture" "_law_picture" (defArgs s__law_picture) (defBody s__law_picture) (defScope s__law_picture) .none kVx2 dcx2 pmx2 anx2 cdx2 ctx2), slx2⟩) (cx2 : PySem.W.codeIn K cdx2 "_law_picture" = true) (kx2 : PySem.W.keepIn K (.ref fx2) = true)
    {fx3 : Addr} {odx3 anx3 : Option Addr} {slx3 : Array (Option Value)} {ocx3 kVx3 dcx3 pmx3 cdx3 ctx3 : Value}
    (ax3 : PySem.W.nsIn K mainGlobals "_law_fields" = some (some (.ref fx3))) (lx3 : K.lookup fx3 = some ⟨ocx3, odx3, .func (PySem.W.fnOf "_law_fields" "_law_fields" (defArgs s__law_fields) (defBody s__law_fields) (defScope s__law_fields) .none kVx3 dcx3 pmx3 anx3 cdx3 ctx3), slx3⟩) (cx3 : PySem.W.codeIn K cdx3 "_law_fields" = true) (kx3 : PySem.W.keepIn K (.ref fx3) = true)
    {fx4 : Addr} {odx4 anx4 : Option Addr} {slx4 : Array (Option Value)} {ocx4 kVx4 dcx4 pmx4 cdx4 ctx4 : Value}
    (ax4 : PySem.W.nsIn K mainGlobals "_law_decimal" = some (some (.ref fx4))) (lx4 : K.lookup fx4 = some ⟨ocx4, odx4, .func (PySem.W.fnOf "_law_decimal" "_law_decimal" (defArgs s__law_decimal) (defBody s__law_decimal) (defScope s__law_decimal) .none kVx4 dcx4 pmx4 anx4 cdx4 ctx4), slx4⟩) (cx4 : PySem.W.codeIn K cdx4 "_law_decimal" = true) (kx4 : PySem.W.keepIn K (.ref fx4) = true)
    {fx5 : Addr} {odx5 anx5 : Option Addr} {slx5 : Array (Option Value)} {ocx5 kVx5 dcx5 pmx5 cdx5 ctx5 : Value}
    (ax5 : PySem.W.nsIn K mainGlobals "_law_value" = some (some (.ref fx5))) (lx5 : K.lookup fx5 = some ⟨ocx5, odx5, .func (PySem.W.fnOf "_law_value" "_law_value" (defArgs s__law_value) (defBody s__law_value) (defScope s__law_value) .none kVx5 dcx5 pmx5 anx5 cdx5 ctx5), slx5⟩) (cx5 : PySem.W.codeIn K cdx5 "_law_value" = true) (kx5 : PySem.W.keepIn K (.ref fx5) = true)
    {fx6 : Addr} {odx6 anx6 : Option Addr} {slx6 : Array (Option Value)} {ocx6 kVx6 dcx6 pmx6 cdx6 ctx6 : Value}
    (ax6 : PySem.W.nsIn K mainGlobals "_law_entries" = some (some (.ref fx6))) (lx6 : K.lookup fx6 = some ⟨ocx6, odx6, .func (PySem.W.fnOf "_law_entries" "_law_entries" (defArgs s__law_entries) (defBody s__law_entries) (defScope s__law_entries) .none kVx6 dcx6 pmx6 anx6 cdx6 ctx6), slx6⟩) (cx6 : PySem.W.codeIn K cdx6 "_law_entries" = true) (kx6 : PySem.W.keepIn K (.ref fx6) = true)
    {fx7 : Addr} {odx7 anx7 : Option Addr} {slx7 : Array (Option Value)} {ocx7 kVx7 dcx7 pmx7 cdx7 ctx7 : Value}
    (ax7 : PySem.W.nsIn K mainGlobals "_has_right_level" = some (some (.ref fx7))) (lx7 : K.lookup fx7 = some ⟨ocx7, odx7, .func (PySem.W.fnOf "_has_right_level" "_has_right_level" (defArgs s__has_right_level) (defBody s__has_right_level) (defScope s__has_right_level) .none kVx7 dcx7 pmx7 anx7 cdx7 ctx7), slx7⟩) (cx7 : PySem.W.codeIn K cdx7 "_has_right_level" = true) (kx7 : PySem.W.keepIn K (.ref fx7) = true)
    {fx8 : Addr} {odx8 anx8 : Option Addr} {slx8 : Array (Option Value)} {ocx8 kVx8 dcx8 pmx8 cdx8 ctx8 : Value}
    (ax8 : PySem.W.nsIn K mainGlobals "_many_dimensions" = some (some (.ref fx8))) (lx8 : K.lookup fx8 = some ⟨ocx8, odx8, .func (PySem.W.fnOf "_many_dimensions" "_many_dimensions" (defArgs s__many_dimensions) (defBody s__many_dimensions) (defScope s__many_dimensions) .none kVx8 dcx8 pmx8 anx8 cdx8 ctx8), slx8⟩) (cx8 : PySem.W.codeIn K cdx8 "_many_dimensions" = true) (kx8 : PySem.W.keepIn K (.ref fx8) = true)
    {fx9 : Addr} {odx9 anx9 : Option Addr} {slx9 : Array (Option Value)} {ocx9 kVx9 dcx9 pmx9 cdx9 ctx9 : Value}
    (ax9 : PySem.W.nsIn K mainGlobals "digits_in" = some (some (.ref fx9))) (lx9 : K.lookup fx9 = some ⟨ocx9, odx9, .func (PySem.W.fnOf "digits_in" "digits_in" (defArgs s_digits_in) (defBody s_digits_in) (defScope s_digits_in) .none kVx9 dcx9 pmx9 anx9 cdx9 ctx9), slx9⟩) (cx9 : PySem.W.codeIn K cdx9 "digits_in" = true) (kx9 : PySem.W.keepIn K (.ref fx9) = true)
    {fx10 : Addr} {odx10 anx10 : Option Addr} {slx10 : Array (Option Value)} {ocx10 kVx10 dcx10 pmx10 cdx10 ctx10 : Value}
    (ax10 : PySem.W.nsIn K mainGlobals "power" = some (some (.ref fx10))) (lx10 : K.lookup fx10 = some ⟨ocx10, odx10, .func (PySem.W.fnOf "power" "power" (defArgs s_power) (defBody s_power) (defScope s_power) .none kVx10 dcx10 pmx10 anx10 cdx10 ctx10), slx10⟩) (cx10 : PySem.W.codeIn K cdx10 "power" = true) (kx10 : PySem.W.keepIn K (.ref fx10) = true)
    {fx11 : Addr} {odx11 anx11 : Option Addr} {slx11 : Array (Option Value)} {ocx11 kVx11 dcx11 pmx11 cdx11 ctx11 : Value}
    (ax11 : PySem.W.nsIn K mainGlobals "fits" = some (some (.ref fx11))) (lx11 : K.lookup fx11 = some ⟨ocx11, odx11, .func (PySem.W.fnOf "fits" "fits" (defArgs s_fits) (defBody s_fits) (defScope s_fits) .none kVx11 dcx11 pmx11 anx11 cdx11 ctx11), slx11⟩) (cx11 : PySem.W.codeIn K cdx11 "fits" = true) (kx11 : PySem.W.keepIn K (.ref fx11) = true)
    {fx12 : Addr} {odx12 anx12 : Option Addr} {slx12 : Array (Option Value)} {ocx12 kVx12 dcx12 pmx12 cdx12 ctx12 : Value}
    (ax12 : PySem.W.nsIn K mainGlobals "is_signed" = some (some (.ref fx12))) (lx12 : K.lookup fx12 = some ⟨ocx12, odx12, .func (PySem.W.fnOf "is_signed" "is_signed" (defArgs s_is_signed) (defBody s_is_signed) (defScope s_is_signed) .none kVx12 dcx12 pmx12 anx12 cdx12 ctx12), slx12⟩) (cx12 : PySem.W.codeIn K cdx12 "is_signed" = true) (kx12 : PySem.W.keepIn K (.ref fx12) = true)
    {fx13 : Addr} {odx13 anx13 : Option Addr} {slx13 : Array (Option Value)} {ocx13 kVx13 dcx13 pmx13 cdx13 ctx13 : Value}
    (ax13 : PySem.W.nsIn K mainGlobals "_many_digits" = some (some (.ref fx13))) (lx13 : K.lookup fx13 = some ⟨ocx13, odx13, .func (PySem.W.fnOf "_many_digits" "_many_digits" (defArgs s__many_digits) (defBody s__many_digits) (defScope s__many_digits) .none kVx13 dcx13 pmx13 anx13 cdx13 ctx13), slx13⟩) (cx13 : PySem.W.codeIn K cdx13 "_many_digits" = true) (kx13 : PySem.W.keepIn K (.ref fx13) = true)
    {fx14 : Addr} {odx14 anx14 : Option Addr} {slx14 : Array (Option Value)} {ocx14 kVx14 dcx14 pmx14 cdx14 ctx14 : Value}
    (ax14 : PySem.W.nsIn K mainGlobals "suits" = some (some (.ref fx14))) (lx14 : K.lookup fx14 = some ⟨ocx14, odx14, .func (PySem.W.fnOf "suits" "suits" (defArgs s_suits) (defBody s_suits) (defScope s_suits) .none kVx14 dcx14 pmx14 anx14 cdx14 ctx14), slx14⟩) (cx14 : PySem.W.codeIn K cdx14 "suits" = true) (kx14 : PySem.W.keepIn K (.ref fx14) = true)
    {fx15 : Addr} {odx15 anx15 : Option Addr} {slx15 : Array (Option Value)} {ocx15 kVx15 dcx15 pmx15 cdx15 ctx15 : Value}
    (ax15 : PySem.W.nsIn K mainGlobals "aligned" = some (some (.ref fx15))) (lx15 : K.lookup fx15 = some ⟨ocx15, odx15, .func (PySem.W.fnOf "aligned" "aligned" (defArgs s_aligned) (defBody s_aligned) (defScope s_aligned) .none kVx15 dcx15 pmx15 anx15 cdx15 ctx15), slx15⟩) (cx15 : PySem.W.codeIn K cdx15 "aligned" = true) (kx15 : PySem.W.keepIn K (.ref fx15) = true)
    {fx16 : Addr} {odx16 anx16 : Option Addr} {slx16 : Array (Option Value)} {ocx16 kVx16 dcx16 pmx16 cdx16 ctx16 : Value}
    (ax16 : PySem.W.nsIn K mainGlobals "_sign_marks" = some (some (.ref fx16))) (lx16 : K.lookup fx16 = some ⟨ocx16, odx16, .func (PySem.W.fnOf "_sign_marks" "_sign_marks" (defArgs s__sign_marks) (defBody s__sign_marks) (defScope s__sign_marks) .none kVx16 dcx16 pmx16 anx16 cdx16 ctx16), slx16⟩) (cx16 : PySem.W.codeIn K cdx16 "_sign_marks" = true) (kx16 : PySem.W.keepIn K (.ref fx16) = true)
    {fx17 : Addr} {odx17 anx17 : Option Addr} {slx17 : Array (Option Value)} {ocx17 kVx17 dcx17 pmx17 cdx17 ctx17 : Value}
    (ax17 : PySem.W.nsIn K mainGlobals "size_of" = some (some (.ref fx17))) (lx17 : K.lookup fx17 = some ⟨ocx17, odx17, .func (PySem.W.fnOf "size_of" "size_of" (defArgs s_size_of) (defBody s_size_of) (defScope s_size_of) .none kVx17 dcx17 pmx17 anx17 cdx17 ctx17), slx17⟩) (cx17 : PySem.W.codeIn K cdx17 "size_of" = true) (kx17 : PySem.W.keepIn K (.ref fx17) = true)
    {fx18 : Addr} {odx18 anx18 : Option Addr} {slx18 : Array (Option Value)} {ocx18 kVx18 dcx18 pmx18 cdx18 ctx18 : Value}
    (ax18 : PySem.W.nsIn K mainGlobals "_value_suits" = some (some (.ref fx18))) (lx18 : K.lookup fx18 = some ⟨ocx18, odx18, .func (PySem.W.fnOf "_value_suits" "_value_suits" (defArgs s__value_suits) (defBody s__value_suits) (defScope s__value_suits) .none kVx18 dcx18 pmx18 anx18 cdx18 ctx18), slx18⟩) (cx18 : PySem.W.codeIn K cdx18 "_value_suits" = true) (kx18 : PySem.W.keepIn K (.ref fx18) = true)
    {fx19 : Addr} {odx19 anx19 : Option Addr} {slx19 : Array (Option Value)} {ocx19 kVx19 dcx19 pmx19 cdx19 ctx19 : Value}
    (ax19 : PySem.W.nsIn K mainGlobals "_fault_of" = some (some (.ref fx19))) (lx19 : K.lookup fx19 = some ⟨ocx19, odx19, .func (PySem.W.fnOf "_fault_of" "_fault_of" (defArgs s__fault_of) (defBody s__fault_of) (defScope s__fault_of) .none kVx19 dcx19 pmx19 anx19 cdx19 ctx19), slx19⟩) (cx19 : PySem.W.codeIn K cdx19 "_fault_of" = true) (kx19 : PySem.W.keepIn K (.ref fx19) = true)
    {fx20 : Addr} {odx20 anx20 : Option Addr} {slx20 : Array (Option Value)} {ocx20 kVx20 dcx20 pmx20 cdx20 ctx20 : Value}
    (ax20 : PySem.W.findIn K (.ref C_Item) "__init__" = some (some (.ref fx20))) (ix20 : PySem.W.isFn K (.ref fx20) = true) (lx20 : K.lookup fx20 = some ⟨ocx20, odx20, .func (PySem.W.fnOf "__init__" "Item.__init__" (defArgs s_Item___init__) (defBody s_Item___init__) (defScope s_Item___init__) .none kVx20 dcx20 pmx20 anx20 cdx20 ctx20), slx20⟩) (cx20 : PySem.W.codeIn K cdx20 "Item.__init__" = true) (kx20 : PySem.W.keepIn K (.ref fx20) = true)
    {fx21 : Addr} {odx21 anx21 : Option Addr} {slx21 : Array (Option Value)} {ocx21 kVx21 dcx21 pmx21 cdx21 ctx21 : Value}
    (ax21 : PySem.W.nsIn K mainGlobals "_next_level" = some (some (.ref fx21))) (lx21 : K.lookup fx21 = some ⟨ocx21, odx21, .func (PySem.W.fnOf "_next_level" "_next_level" (defArgs s__next_level) (defBody s__next_level) (defScope s__next_level) .none kVx21 dcx21 pmx21 anx21 cdx21 ctx21), slx21⟩) (cx21 : PySem.W.codeIn K cdx21 "_next_level" = true) (kx21 : PySem.W.keepIn K (.ref fx21) = true)
    {fx22 : Addr} {odx22 anx22 : Option Addr} {slx22 : Array (Option Value)} {ocx22 kVx22 dcx22 pmx22 cdx22 ctx22 : Value}
    (ax22 : PySem.W.findIn K (.ref C_BadData) "__init__" = some (some (.ref fx22))) (ix22 : PySem.W.isFn K (.ref fx22) = true) (lx22 : K.lookup fx22 = some ⟨ocx22, odx22, .func (PySem.W.fnOf "__init__" "BadData.__init__" (defArgs s_BadData___init__) (defBody s_BadData___init__) (defScope s_BadData___init__) .none kVx22 dcx22 pmx22 anx22 cdx22 ctx22), slx22⟩) (cx22 : PySem.W.codeIn K cdx22 "BadData.__init__" = true) (kx22 : PySem.W.keepIn K (.ref fx22) = true)
    (tfx22 : PySem.W.typeIn K (.ref fx22) = some (.type "function"))
    {fx23 : Addr} {odx23 anx23 : Option Addr} {slx23 : Array (Option Value)} {ocx23 kVx23 dcx23 pmx23 cdx23 ctx23 : Value}
    (ax23 : PySem.W.nsIn K mainGlobals "_items_of" = some (some (.ref fx23))) (lx23 : K.lookup fx23 = some ⟨ocx23, odx23, .func (PySem.W.fnOf "_items_of" "_items_of" (defArgs s__items_of) (defBody s__items_of) (defScope s__items_of) .none kVx23 dcx23 pmx23 anx23 cdx23 ctx23), slx23⟩) (cx23 : PySem.W.codeIn K cdx23 "_items_of" = true) (kx23 : PySem.W.keepIn K (.ref fx23) = true)
    {fx24 : Addr} {odx24 anx24 : Option Addr} {slx24 : Array (Option Value)} {ocx24 kVx24 dcx24 pmx24 cdx24 ctx24 : Value}
    (ax24 : PySem.W.nsIn K mainGlobals "_times_of" = some (some (.ref fx24))) (lx24 : K.lookup fx24 = some ⟨ocx24, odx24, .func (PySem.W.fnOf "_times_of" "_times_of" (defArgs s__times_of) (defBody s__times_of) (defScope s__times_of) .none kVx24 dcx24 pmx24 anx24 cdx24 ctx24), slx24⟩) (cx24 : PySem.W.codeIn K cdx24 "_times_of" = true) (kx24 : PySem.W.keepIn K (.ref fx24) = true)
    {fx25 : Addr} {odx25 anx25 : Option Addr} {slx25 : Array (Option Value)} {ocx25 kVx25 dcx25 pmx25 cdx25 ctx25 : Value}
    (ax25 : PySem.W.nsIn K mainGlobals "_add_sizes" = some (some (.ref fx25))) (lx25 : K.lookup fx25 = some ⟨ocx25, odx25, .func (PySem.W.fnOf "_add_sizes" "_add_sizes" (defArgs s__add_sizes) (defBody s__add_sizes) (defScope s__add_sizes) .none kVx25 dcx25 pmx25 anx25 cdx25 ctx25), slx25⟩) (cx25 : PySem.W.codeIn K cdx25 "_add_sizes" = true) (kx25 : PySem.W.keepIn K (.ref fx25) = true)
    {fx26 : Addr} {odx26 anx26 : Option Addr} {slx26 : Array (Option Value)} {ocx26 kVx26 dcx26 pmx26 cdx26 ctx26 : Value}
    (ax26 : PySem.W.nsIn K mainGlobals "_add_offsets" = some (some (.ref fx26))) (lx26 : K.lookup fx26 = some ⟨ocx26, odx26, .func (PySem.W.fnOf "_add_offsets" "_add_offsets" (defArgs s__add_offsets) (defBody s__add_offsets) (defScope s__add_offsets) .none kVx26 dcx26 pmx26 anx26 cdx26 ctx26), slx26⟩) (cx26 : PySem.W.codeIn K cdx26 "_add_offsets" = true) (kx26 : PySem.W.keepIn K (.ref fx26) = true)
    {fx27 : Addr} {odx27 anx27 : Option Addr} {slx27 : Array (Option Value)} {ocx27 kVx27 dcx27 pmx27 cdx27 ctx27 : Value}
    (ax27 : PySem.W.findIn K (.ref C_Layout) "__init__" = some (some (.ref fx27))) (ix27 : PySem.W.isFn K (.ref fx27) = true) (lx27 : K.lookup fx27 = some ⟨ocx27, odx27, .func (PySem.W.fnOf "__init__" "Layout.__init__" (defArgs s_Layout___init__) (defBody s_Layout___init__) (defScope s_Layout___init__) .none kVx27 dcx27 pmx27 anx27 cdx27 ctx27), slx27⟩) (cx27 : PySem.W.codeIn K cdx27 "Layout.__init__" = true) (kx27 : PySem.W.keepIn K (.ref fx27) = true)
    {fx28 : Addr} {odx28 anx28 : Option Addr} {slx28 : Array (Option Value)} {ocx28 kVx28 dcx28 pmx28 cdx28 ctx28 : Value}
    (ax28 : PySem.W.nsIn K mainGlobals "_law_told" = some (some (.ref fx28))) (lx28 : K.lookup fx28 = some ⟨ocx28, odx28, .func (PySem.W.fnOf "_law_told" "_law_told" (defArgs s__law_told) (defBody s__law_told) (defScope s__law_told) .none kVx28 dcx28 pmx28 anx28 cdx28 ctx28), slx28⟩) (cx28 : PySem.W.codeIn K cdx28 "_law_told" = true) (kx28 : PySem.W.keepIn K (.ref fx28) = true)
    {fx29 : Addr} {odx29 anx29 : Option Addr} {slx29 : Array (Option Value)} {ocx29 kVx29 dcx29 pmx29 cdx29 ctx29 : Value}
    (ax29 : PySem.W.nsIn K mainGlobals "_law_around" = some (some (.ref fx29))) (lx29 : K.lookup fx29 = some ⟨ocx29, odx29, .func (PySem.W.fnOf "_law_around" "_law_around" (defArgs s__law_around) (defBody s__law_around) (defScope s__law_around) .none kVx29 dcx29 pmx29 anx29 cdx29 ctx29), slx29⟩) (cx29 : PySem.W.codeIn K cdx29 "_law_around" = true) (kx29 : PySem.W.keepIn K (.ref fx29) = true)
    {fx30 : Addr} {odx30 anx30 : Option Addr} {slx30 : Array (Option Value)} {ocx30 kVx30 dcx30 pmx30 cdx30 ctx30 : Value}
    (ax30 : PySem.W.nsIn K mainGlobals "_law_level" = some (some (.ref fx30))) (lx30 : K.lookup fx30 = some ⟨ocx30, odx30, .func (PySem.W.fnOf "_law_level" "_law_level" (defArgs s__law_level) (defBody s__law_level) (defScope s__law_level) .none kVx30 dcx30 pmx30 anx30 cdx30 ctx30), slx30⟩) (cx30 : PySem.W.codeIn K cdx30 "_law_level" = true) (kx30 : PySem.W.keepIn K (.ref fx30) = true)
    {fx31 : Addr} {odx31 anx31 : Option Addr} {slx31 : Array (Option Value)} {ocx31 kVx31 dcx31 pmx31 cdx31 ctx31 : Value}
    (ax31 : PySem.W.nsIn K mainGlobals "_law_suits" = some (some (.ref fx31))) (lx31 : K.lookup fx31 = some ⟨ocx31, odx31, .func (PySem.W.fnOf "_law_suits" "_law_suits" (defArgs s__law_suits) (defBody s__law_suits) (defScope s__law_suits) .none kVx31 dcx31 pmx31 anx31 cdx31 ctx31), slx31⟩) (cx31 : PySem.W.codeIn K cdx31 "_law_suits" = true) (kx31 : PySem.W.keepIn K (.ref fx31) = true)
    {fx32 : Addr} {odx32 anx32 : Option Addr} {slx32 : Array (Option Value)} {ocx32 kVx32 dcx32 pmx32 cdx32 ctx32 : Value}
    (ax32 : PySem.W.nsIn K mainGlobals "_law_due" = some (some (.ref fx32))) (lx32 : K.lookup fx32 = some ⟨ocx32, odx32, .func (PySem.W.fnOf "_law_due" "_law_due" (defArgs s__law_due) (defBody s__law_due) (defScope s__law_due) .none kVx32 dcx32 pmx32 anx32 cdx32 ctx32), slx32⟩) (cx32 : PySem.W.codeIn K cdx32 "_law_due" = true) (kx32 : PySem.W.keepIn K (.ref fx32) = true)
    {fx33 : Addr} {odx33 anx33 : Option Addr} {slx33 : Array (Option Value)} {ocx33 kVx33 dcx33 pmx33 cdx33 ctx33 : Value}
    (ax33 : PySem.W.nsIn K mainGlobals "_law_changed" = some (some (.ref fx33))) (lx33 : K.lookup fx33 = some ⟨ocx33, odx33, .func (PySem.W.fnOf "_law_changed" "_law_changed" (defArgs s__law_changed) (defBody s__law_changed) (defScope s__law_changed) .none kVx33 dcx33 pmx33 anx33 cdx33 ctx33), slx33⟩) (cx33 : PySem.W.codeIn K cdx33 "_law_changed" = true) (kx33 : PySem.W.keepIn K (.ref fx33) = true)
    {fx34 : Addr} {odx34 anx34 : Option Addr} {slx34 : Array (Option Value)} {ocx34 kVx34 dcx34 pmx34 cdx34 ctx34 : Value}
    (ax34 : PySem.W.nsIn K mainGlobals "law" = some (some (.ref fx34))) (lx34 : K.lookup fx34 = some ⟨ocx34, odx34, .func (PySem.W.fnOf "law" "law" (defArgs s_law) (defBody s_law) (defScope s_law) .none kVx34 dcx34 pmx34 anx34 cdx34 ctx34), slx34⟩) (cx34 : PySem.W.codeIn K cdx34 "law" = true) (kx34 : PySem.W.keepIn K (.ref fx34) = true)
    (z_abs : PySem.W.nsIn K mainGlobals "abs" = some none)
    (z_enumerate : PySem.W.nsIn K mainGlobals "enumerate" = some none)
    (z_int : PySem.W.nsIn K mainGlobals "int" = some none)
    (z_isinstance : PySem.W.nsIn K mainGlobals "isinstance" = some none)
    (z_len : PySem.W.nsIn K mainGlobals "len" = some none)
    (z_list : PySem.W.nsIn K mainGlobals "list" = some none)
    (z_max : PySem.W.nsIn K mainGlobals "max" = some none)
    (z_range : PySem.W.nsIn K mainGlobals "range" = some none)
    (z_reversed : PySem.W.nsIn K mainGlobals "reversed" = some none)
    (z_str : PySem.W.nsIn K mainGlobals "str" = some none)
    {t_MOST_DIMENSIONS : Tok} (g_MOST_DIMENSIONS : PySem.W.nsIn K mainGlobals "MOST_DIMENSIONS" = some (some (.int 2 t_MOST_DIMENSIONS)))
    {t_MOST_STORAGE : Tok} (g_MOST_STORAGE : PySem.W.nsIn K mainGlobals "MOST_STORAGE" = some (some (.int 4000 t_MOST_STORAGE)))
    {aC_BadPicture : Addr} (n_BadPicture : PySem.W.nsIn K mainGlobals "BadPicture" = some (some (.ref aC_BadPicture))) (x_BadPicture : PySem.W.excIn K aC_BadPicture [.type "ValueError", .type "Exception", .type "BaseException", .type "object"] "ValueError.__new__" = true) (kc_BadPicture : PySem.W.keepIn K (.ref aC_BadPicture) = true) (tc_BadPicture : PySem.W.typeIn K (.ref aC_BadPicture) = some (.type "type"))
    (hg_BadPicture : PySem.W.findIn K (.ref aC_BadPicture) "__getattribute__" = some (some (.builtin "BaseException.__getattribute__"))) (hk_BadPicture : PySem.W.findIn K (.ref aC_BadPicture) "__getattr__" = some none) (hs_BadPicture : PySem.W.subIn K (.ref aC_BadPicture) (.type "BaseException") = some true) (hd_BadPicture : PySem.W.hasDictIn K aC_BadPicture = true) (ha_BadPicture : PySem.W.findIn K (.ref aC_BadPicture) "__class__" = some (some (.builtin "object.__class__"))) (hm_BadPicture : PySem.W.mroIn K aC_BadPicture (.type "object") = some true)
    (hn_ : PySem.W.specialIn K (.builtin "object.__class__") "__get__" = some (some (.builtin "getset_descriptor.__get__"))) (ht_ : PySem.W.takesIn K (.builtin "object.__class__") = some true)
    (s_BadData_BadData : PySem.W.subIn K (.ref C_BadData) (.ref C_BadData) = some true)
    (s_BadPicture_BadData : PySem.W.subIn K (.ref aC_BadPicture) (.ref C_BadData) = some false)
    : ∃ fd : FuncData, (∀ (s : Shared) (v : Value), BindsTo s fd ⟨[v], []⟩ [("script", v)]) ∧ ∀ base : Heap, K.In base → base.Ns mainGlobals mg → FnOk l.prog w K mg base CX0 10 fa fd ["script"] (sp_law K) := by
  have e := hfa.symm.trans (PySem.W.mg_of X G ax34)
  cases e
  have B : Blt w K mg := ⟨PySem.W.mg_none_of X G z_abs, PySem.W.mg_none_of X G z_enumerate, PySem.W.mg_none_of X G z_int, PySem.W.mg_none_of X G z_isinstance, PySem.W.mg_none_of X G z_len, PySem.W.mg_none_of X G z_list, PySem.W.mg_none_of X G z_max, PySem.W.mg_none_of X G z_range, PySem.W.mg_none_of X G z_reversed, PySem.W.mg_none_of X G z_str, ⟨_, PySem.W.mg_of X G g_MOST_DIMENSIONS, _, rfl⟩, ⟨_, PySem.W.mg_of X G g_MOST_STORAGE, _, rfl⟩, WP.ExiOk.mk' (PySem.W.mg_of X G on_BadData) xo_BadData xx_BadData (List.forall_mem_cons.mpr ⟨ot_BadData_0, (List.forall_mem_cons.mpr ⟨ot_BadData_1, (fun _ h => nomatch h)⟩)⟩) xc_BadData, WP.ClsOk.mk' (PySem.W.mg_of X G on_Item) ⟨og_Item, oh_Item, oo_Item, os_Item⟩ (List.forall_mem_cons.mpr ⟨ot_Item_0, (List.forall_mem_cons.mpr ⟨ot_Item_1, (List.forall_mem_cons.mpr ⟨ot_Item_2, (List.forall_mem_cons.mpr ⟨ot_Item_3, (List.forall_mem_cons.mpr ⟨ot_Item_4, (List.forall_mem_cons.mpr ⟨ot_Item_5, (List.forall_mem_cons.mpr ⟨ot_Item_6, (List.forall_mem_cons.mpr ⟨ot_Item_7, (fun _ h => nomatch h)⟩)⟩)⟩)⟩)⟩)⟩)⟩)⟩), WP.ClsOk.mk' (PySem.W.mg_of X G on_Layout) ⟨og_Layout, oh_Layout, oo_Layout, os_Layout⟩ (List.forall_mem_cons.mpr ⟨ot_Layout_0, (List.forall_mem_cons.mpr ⟨ot_Layout_1, (fun _ h => nomatch h)⟩)⟩), WP.ExcOk.mk' (PySem.W.mg_of X G n_BadPicture) ⟨x_BadPicture, kc_BadPicture, tc_BadPicture, ⟨hg_BadPicture, hk_BadPicture, hs_BadPicture, hd_BadPicture, ha_BadPicture, hn_, ht_, hm_BadPicture⟩⟩, by rw [WP.ca_of (PySem.W.mg_of X G on_BadData)]; exact s_BadData_BadData, by rw [WP.ca_of (PySem.W.mg_of X G n_BadPicture), WP.ca_of (PySem.W.mg_of X G on_BadData)]; exact s_BadPicture_BadData⟩
  have Fx0 := fun_mk (st := s__law_rich) lx0 cx0 kx0
  have bx0 := Fx0.binds (ps := ["cell", "k"]) fun _ _ _ _ _ _ us hl => match us, hl with | [_, _], _ => rfl
  have Cx0 : ∀ base : Heap, K.In base → base.Ns mainGlobals mg → WP.Callee l.prog w K mg base CX0 1 "_law_rich" ["cell", "k"] (sp__law_rich K mg) := fun base p1 p2 => WP.Callee.mk' (ok__law_rich Fx0 B ) (PySem.W.mg_of X G ax0) kx0 bx0
  have Fx1 := fun_mk (st := s__law_cell) lx1 cx1 kx1
  have bx1 := Fx1.binds (ps := ["script", "k"]) fun _ _ _ _ _ _ us hl => match us, hl with | [_, _], _ => rfl
  have Cx1 : ∀ base : Heap, K.In base → base.Ns mainGlobals mg → WP.Callee l.prog w K mg base CX0 1 "_law_cell" ["script", "k"] (sp__law_cell K mg) := fun base p1 p2 => WP.Callee.mk' (ok__law_cell Fx1 B ) (PySem.W.mg_of X G ax1) kx1 bx1
  have Fx2 := fun_mk (st := s__law_picture) lx2 cx2 kx2
  have bx2 := Fx2.binds (ps := ["rich"]) fun _ _ _ _ _ _ us hl => match us, hl with | [_], _ => rfl
  have Cx2 : ∀ base : Heap, K.In base → base.Ns mainGlobals mg → WP.Callee l.prog w K mg base CX0 1 "_law_picture" ["rich"] (sp__law_picture K mg) := fun base p1 p2 => WP.Callee.mk' (ok__law_picture Fx2 B ) (PySem.W.mg_of X G ax2) kx2 bx2
  have Fx3 := fun_mk (st := s__law_fields) lx3 cx3 kx3
  have bx3 := Fx3.binds (ps := ["rich", "level", "letter", "count"]) fun _ _ _ _ _ _ us hl => match us, hl with | [_, _, _, _], _ => rfl
  have Cx3 : ∀ base : Heap, K.In base → base.Ns mainGlobals mg → WP.Callee l.prog w K mg base CX0 2 "_law_fields" ["rich", "level", "letter", "count"] (sp__law_fields K mg) := fun base p1 p2 => WP.Callee.mk' (ok__law_fields Fx3 B (Cx2 base p1 p2)) (PySem.W.mg_of X G ax3) kx3 bx3
  have Fx4 := fun_mk (st := s__law_decimal) lx4 cx4 kx4
  have bx4 := Fx4.binds (ps := ["units", "scale"]) fun _ _ _ _ _ _ us hl => match us, hl with | [_, _], _ => rfl
  have Cx4 : ∀ base : Heap, K.In base → base.Ns mainGlobals mg → WP.Callee l.prog w K mg base CX0 1 "_law_decimal" ["units", "scale"] (sp__law_decimal K mg) := fun base p1 p2 => WP.Callee.mk' (ok__law_decimal Fx4 B ) (PySem.W.mg_of X G ax4) kx4 bx4
  have Fx5 := fun_mk (st := s__law_value) lx5 cx5 kx5
  have bx5 := Fx5.binds (ps := ["picture", "rich"]) fun _ _ _ _ _ _ us hl => match us, hl with | [_, _], _ => rfl
  have Cx5 : ∀ base : Heap, K.In base → base.Ns mainGlobals mg → WP.Callee l.prog w K mg base CX0 2 "_law_value" ["picture", "rich"] (sp__law_value K mg) := fun base p1 p2 => WP.Callee.mk' (ok__law_value Fx5 B (Cx4 base p1 p2)) (PySem.W.mg_of X G ax5) kx5 bx5
  have Fx6 := fun_mk (st := s__law_entries) lx6 cx6 kx6
  have bx6 := Fx6.binds (ps := ["script"]) fun _ _ _ _ _ _ us hl => match us, hl with | [_], _ => rfl
  have Cx6 : ∀ base : Heap, K.In base → base.Ns mainGlobals mg → WP.Callee l.prog w K mg base CX0 3 "_law_entries" ["script"] (sp__law_entries K mg) := fun base p1 p2 => WP.Callee.mk' (ok__law_entries Fx6 B (Cx0 base p1 p2) (Cx1 base p1 p2) (Cx3 base p1 p2) (Cx2 base p1 p2) (Cx5 base p1 p2)) (PySem.W.mg_of X G ax6) kx6 bx6
  have Fx7 := fun_mk (st := s__has_right_level) lx7 cx7 kx7
  have bx7 := Fx7.binds (ps := ["level", "path"]) fun _ _ _ _ _ _ us hl => match us, hl with | [_, _], _ => rfl
  have Cx7 : ∀ base : Heap, K.In base → base.Ns mainGlobals mg → WP.Callee l.prog w K mg base CX0 1 "_has_right_level" ["level", "path"] (sp__has_right_level K mg) := fun base p1 p2 => WP.Callee.mk' (ok__has_right_level Fx7 B ) (PySem.W.mg_of X G ax7) kx7 bx7
  have Fx8 := fun_mk (st := s__many_dimensions) lx8 cx8 kx8
  have bx8 := Fx8.binds (ps := ["path"]) fun _ _ _ _ _ _ us hl => match us, hl with | [_], _ => rfl
  have Cx8 : ∀ base : Heap, K.In base → base.Ns mainGlobals mg → WP.Callee l.prog w K mg base CX0 1 "_many_dimensions" ["path"] (sp__many_dimensions K mg) := fun base p1 p2 => WP.Callee.mk' (ok__many_dimensions Fx8 B ) (PySem.W.mg_of X G ax8) kx8 bx8
  have Fx9 := fun_mk (st := s_digits_in) lx9 cx9 kx9
  have bx9 := Fx9.binds (ps := ["picture"]) fun _ _ _ _ _ _ us hl => match us, hl with | [_], _ => rfl
  have Cx9 : ∀ base : Heap, K.In base → base.Ns mainGlobals mg → WP.Callee l.prog w K mg base CX0 1 "digits_in" ["picture"] (sp_digits_in K mg) := fun base p1 p2 => WP.Callee.mk' (ok_digits_in Fx9 B ) (PySem.W.mg_of X G ax9) kx9 bx9
  have Fx10 := fun_mk (st := s_power) lx10 cx10 kx10
  have bx10 := Fx10.binds (ps := ["exponent"]) fun _ _ _ _ _ _ us hl => match us, hl with | [_], _ => rfl
  have Cx10 : ∀ base : Heap, K.In base → base.Ns mainGlobals mg → WP.Callee l.prog w K mg base CX0 1 "power" ["exponent"] (sp_power K mg) := fun base p1 p2 => WP.Callee.mk' (ok_power Fx10 B ) (PySem.W.mg_of X G ax10) kx10 bx10
  have Fx11 := fun_mk (st := s_fits) lx11 cx11 kx11
  have bx11 := Fx11.binds (ps := ["units", "digits"]) fun _ _ _ _ _ _ us hl => match us, hl with | [_, _], _ => rfl
  have Cx11 : ∀ base : Heap, K.In base → base.Ns mainGlobals mg → WP.Callee l.prog w K mg base CX0 2 "fits" ["units", "digits"] (sp_fits K mg) := fun base p1 p2 => WP.Callee.mk' (ok_fits Fx11 B (Cx10 base p1 p2)) (PySem.W.mg_of X G ax11) kx11 bx11
  have Fx12 := fun_mk (st := s_is_signed) lx12 cx12 kx12
  have bx12 := Fx12.binds (ps := ["picture"]) fun _ _ _ _ _ _ us hl => match us, hl with | [_], _ => rfl
  have Cx12 : ∀ base : Heap, K.In base → base.Ns mainGlobals mg → WP.Callee l.prog w K mg base CX0 1 "is_signed" ["picture"] (sp_is_signed K mg) := fun base p1 p2 => WP.Callee.mk' (ok_is_signed Fx12 B ) (PySem.W.mg_of X G ax12) kx12 bx12
  have Fx13 := fun_mk (st := s__many_digits) lx13 cx13 kx13
  have bx13 := Fx13.binds (ps := ["picture"]) fun _ _ _ _ _ _ us hl => match us, hl with | [_], _ => rfl
  have Cx13 : ∀ base : Heap, K.In base → base.Ns mainGlobals mg → WP.Callee l.prog w K mg base CX0 2 "_many_digits" ["picture"] (sp__many_digits K mg) := fun base p1 p2 => WP.Callee.mk' (ok__many_digits Fx13 B (Cx9 base p1 p2)) (PySem.W.mg_of X G ax13) kx13 bx13
  have Fx14 := fun_mk (st := s_suits) lx14 cx14 kx14
  have bx14 := Fx14.binds (ps := ["picture", "units"]) fun _ _ _ _ _ _ us hl => match us, hl with | [_, _], _ => rfl
  have Cx14 : ∀ base : Heap, K.In base → base.Ns mainGlobals mg → WP.Callee l.prog w K mg base CX0 3 "suits" ["picture", "units"] (sp_suits K mg) := fun base p1 p2 => WP.Callee.mk' (ok_suits Fx14 B (Cx11 base p1 p2) (Cx12 base p1 p2) (Cx13 base p1 p2)) (PySem.W.mg_of X G ax14) kx14 bx14
  have Fx15 := fun_mk (st := s_aligned) lx15 cx15 kx15
  have bx15 := Fx15.binds (ps := ["a", "scale"]) fun _ _ _ _ _ _ us hl => match us, hl with | [_, _], _ => rfl
  have Cx15 : ∀ base : Heap, K.In base → base.Ns mainGlobals mg → WP.Callee l.prog w K mg base CX0 2 "aligned" ["a", "scale"] (sp_aligned K mg) := fun base p1 p2 => WP.Callee.mk' (ok_aligned Fx15 B (Cx10 base p1 p2)) (PySem.W.mg_of X G ax15) kx15 bx15
  have Fx16 := fun_mk (st := s__sign_marks) lx16 cx16 kx16
  have bx16 := Fx16.binds (ps := ["sign"]) fun _ _ _ _ _ _ us hl => match us, hl with | [_], _ => rfl
  have Cx16 : ∀ base : Heap, K.In base → base.Ns mainGlobals mg → WP.Callee l.prog w K mg base CX0 1 "_sign_marks" ["sign"] (sp__sign_marks K mg) := fun base p1 p2 => WP.Callee.mk' (ok__sign_marks Fx16 B ) (PySem.W.mg_of X G ax16) kx16 bx16
  have Fx17 := fun_mk (st := s_size_of) lx17 cx17 kx17
  have bx17 := Fx17.binds (ps := ["picture"]) fun _ _ _ _ _ _ us hl => match us, hl with | [_], _ => rfl
  have Cx17 : ∀ base : Heap, K.In base → base.Ns mainGlobals mg → WP.Callee l.prog w K mg base CX0 2 "size_of" ["picture"] (sp_size_of K mg) := fun base p1 p2 => WP.Callee.mk' (ok_size_of Fx17 B (Cx16 base p1 p2)) (PySem.W.mg_of X G ax17) kx17 bx17
  have Fx18 := fun_mk (st := s__value_suits) lx18 cx18 kx18
  have bx18 := Fx18.binds (ps := ["picture", "value"]) fun _ _ _ _ _ _ us hl => match us, hl with | [_, _], _ => rfl
  have Cx18 : ∀ base : Heap, K.In base → base.Ns mainGlobals mg → WP.Callee l.prog w K mg base CX0 4 "_value_suits" ["picture", "value"] (sp__value_suits K mg) := fun base p1 p2 => WP.Callee.mk' (ok__value_suits Fx18 B (Cx9 base p1 p2) (Cx14 base p1 p2) (Cx15 base p1 p2) (Cx17 base p1 p2)) (PySem.W.mg_of X G ax18) kx18 bx18
  have Fx19 := fun_mk (st := s__fault_of) lx19 cx19 kx19
  have bx19 := Fx19.binds (ps := ["entry", "path", "outer", "items", "next_level"]) fun _ _ _ _ _ _ us hl => match us, hl with | [_, _, _, _, _], _ => rfl
  have Cx19 : ∀ base : Heap, K.In base → base.Ns mainGlobals mg → WP.Callee l.prog w K mg base CX0 5 "_fault_of" ["entry", "path", "outer", "items", "next_level"] (sp__fault_of K mg) := fun base p1 p2 => WP.Callee.mk' (ok__fault_of Fx19 B (Cx7 base p1 p2) (Cx8 base p1 p2) (Cx18 base p1 p2)) (PySem.W.mg_of X G ax19) kx19 bx19
  have Fx20 := fun_mk (st := s_Item___init__) lx20 cx20 kx20
  have bx20 := Fx20.binds (ps := ["self", "entry", "parent"]) fun _ _ _ _ _ _ us hl => match us, hl with | [_, _, _], _ => rfl
  have Cx20 : ∀ base : Heap, K.In base → base.Ns mainGlobals mg → WP.CalleeI l.prog w K mg base CX0 3 "Item" ["self", "entry", "parent"] (sp_Item___init__ K mg) := fun base p1 p2 => WP.CalleeI.mk' (ok_Item___init__ Fx20 B (Cx17 base p1 p2)) (PySem.W.mg_of X G on_Item) ⟨om_Item, ax20, ix20, ok_Item⟩ bx20
  have Fx21 := fun_mk (st := s__next_level) lx21 cx21 kx21
  have bx21 := Fx21.binds (ps := ["entries", "at"]) fun _ _ _ _ _ _ us hl => match us, hl with | [_, _], _ => rfl
  have Cx21 : ∀ base : Heap, K.In base → base.Ns mainGlobals mg → WP.Callee l.prog w K mg base CX0 1 "_next_level" ["entries", "at"] (sp__next_level K mg) := fun base p1 p2 => WP.Callee.mk' (ok__next_level Fx21 B ) (PySem.W.mg_of X G ax21) kx21 bx21
  have Fx22 := fun_mk (st := s_BadData___init__) lx22 cx22 kx22
  have bx22 := Fx22.binds (ps := ["self", "reason", "name"]) fun _ _ _ _ _ _ us hl => match us, hl with | [_, _, _], _ => rfl
  have Cx22 : ∀ base : Heap, K.In base → base.Ns mainGlobals mg → WP.CalleeE l.prog w K mg base CX0 1 "BadData" ["self", "reason", "name"] (sp_BadData___init__ K mg) := fun base p1 p2 => WP.CalleeE.mk' (ok_BadData___init__ Fx22 B ) (PySem.W.mg_of X G on_BadData) ax22 tfx22 bx22
  have Fx23 := fun_mk (st := s__items_of) lx23 cx23 kx23
  have bx23 := Fx23.binds (ps := ["entries"]) fun _ _ _ _ _ _ us hl => match us, hl with | [_], _ => rfl
  have Cx23 : ∀ base : Heap, K.In base → base.Ns mainGlobals mg → WP.Callee l.prog w K mg base (L2.CX l.prog w) 6 "_items_of" ["entries"] (sp__items_of K mg) := fun base p1 p2 => WP.Callee.mk' (ok__items_of Fx23 B (Cx19 base p1 p2) (Cx20 base p1 p2) (Cx21 base p1 p2) (Cx22 base p1 p2)) (PySem.W.mg_of X G ax23) kx23 bx23
  have Fx24 := fun_mk (st := s__times_of) lx24 cx24 kx24
  have bx24 := Fx24.binds (ps := ["item"]) fun _ _ _ _ _ _ us hl => match us, hl with | [_], _ => rfl
  have Cx24 : ∀ base : Heap, K.In base → base.Ns mainGlobals mg → WP.Callee l.prog w K mg base CX0 1 "_times_of" ["item"] (sp__times_of K mg) := fun base p1 p2 => WP.Callee.mk' (ok__times_of Fx24 B ) (PySem.W.mg_of X G ax24) kx24 bx24
  have Fx25 := fun_mk (st := s__add_sizes) lx25 cx25 kx25
  have bx25 := Fx25.binds (ps := ["items"]) fun _ _ _ _ _ _ us hl => match us, hl with | [_], _ => rfl
  have Cx25 : ∀ base : Heap, K.In base → base.Ns mainGlobals mg → WP.Callee l.prog w K mg base CX0 2 "_add_sizes" ["items"] (sp__add_sizes K mg) := fun base p1 p2 => WP.Callee.mk' (ok__add_sizes Fx25 B (Cx24 base p1 p2)) (PySem.W.mg_of X G ax25) kx25 bx25
  have Fx26 := fun_mk (st := s__add_offsets) lx26 cx26 kx26
  have bx26 := Fx26.binds (ps := ["items"]) fun _ _ _ _ _ _ us hl => match us, hl with | [_], _ => rfl
  have Cx26 : ∀ base : Heap, K.In base → base.Ns mainGlobals mg → WP.Callee l.prog w K mg base CX0 2 "_add_offsets" ["items"] (sp__add_offsets K mg) := fun base p1 p2 => WP.Callee.mk' (ok__add_offsets Fx26 B (Cx24 base p1 p2)) (PySem.W.mg_of X G ax26) kx26 bx26
  have Fx27 := fun_mk (st := s_Layout___init__) lx27 cx27 kx27
  have bx27 := Fx27.binds (ps := ["self", "entries"]) fun _ _ _ _ _ _ us hl => match us, hl with | [_, _], _ => rfl
  have Cx27 : ∀ base : Heap, K.In base → base.Ns mainGlobals mg → WP.CalleeI l.prog w K mg base (L2.CX l.prog w) 7 "Layout" ["self", "entries"] (sp_Layout___init__ K mg) := fun base p1 p2 => WP.CalleeI.mk' (ok_Layout___init__ Fx27 B (Cx23 base p1 p2) (Cx25 base p1 p2) (Cx26 base p1 p2) (Cx22 base p1 p2)) (PySem.W.mg_of X G on_Layout) ⟨om_Layout, ax27, ix27, ok_Layout⟩ bx27
  have Fx28 := fun_mk (st := s__law_told) lx28 cx28 kx28
  have bx28 := Fx28.binds (ps := ["rows"]) fun _ _ _ _ _ _ us hl => match us, hl with | [_], _ => rfl
  have Cx28 : ∀ base : Heap, K.In base → base.Ns mainGlobals mg → WP.Callee l.prog w K mg base CX0 9 "_law_told" ["rows"] (sp__law_told K mg) := fun base p1 p2 => WP.Callee.mk' (ok__law_told Fx28 B (Cx27 base p1 p2)) (PySem.W.mg_of X G ax28) kx28 bx28
  have Fx29 := fun_mk (st := s__law_around) lx29 cx29 kx29
  have bx29 := Fx29.binds (ps := ["rows", "at"]) fun _ _ _ _ _ _ us hl => match us, hl with | [_, _], _ => rfl
  have Cx29 : ∀ base : Heap, K.In base → base.Ns mainGlobals mg → WP.Callee l.prog w K mg base CX0 1 "_law_around" ["rows", "at"] (sp__law_around K mg) := fun base p1 p2 => WP.Callee.mk' (ok__law_around Fx29 B ) (PySem.W.mg_of X G ax29) kx29 bx29
  have Fx30 := fun_mk (st := s__law_level) lx30 cx30 kx30
  have bx30 := Fx30.binds (ps := ["rows", "at"]) fun _ _ _ _ _ _ us hl => match us, hl with | [_, _], _ => rfl
  have Cx30 : ∀ base : Heap, K.In base → base.Ns mainGlobals mg → WP.Callee l.prog w K mg base CX0 2 "_law_level" ["rows", "at"] (sp__law_level K mg) := fun base p1 p2 => WP.Callee.mk' (ok__law_level Fx30 B (Cx29 base p1 p2)) (PySem.W.mg_of X G ax30) kx30 bx30
  have Fx31 := fun_mk (st := s__law_suits) lx31 cx31 kx31
  have bx31 := Fx31.binds (ps := ["picture", "value"]) fun _ _ _ _ _ _ us hl => match us, hl with | [_, _], _ => rfl
  have Cx31 : ∀ base : Heap, K.In base → base.Ns mainGlobals mg → WP.Callee l.prog w K mg base CX0 1 "_law_suits" ["picture", "value"] (sp__law_suits K mg) := fun base p1 p2 => WP.Callee.mk' (ok__law_suits Fx31 B ) (PySem.W.mg_of X G ax31) kx31 bx31
  have Fx32 := fun_mk (st := s__law_due) lx32 cx32 kx32
  have bx32 := Fx32.binds (ps := ["rows"]) fun _ _ _ _ _ _ us hl => match us, hl with | [_], _ => rfl
  have Cx32 : ∀ base : Heap, K.In base → base.Ns mainGlobals mg → WP.Callee l.prog w K mg base CX0 3 "_law_due" ["rows"] (sp__law_due K mg) := fun base p1 p2 => WP.Callee.mk' (ok__law_due Fx32 B (Cx29 base p1 p2) (Cx30 base p1 p2) (Cx31 base p1 p2)) (PySem.W.mg_of X G ax32) kx32 bx32
  have Fx33 := fun_mk (st := s__law_changed) lx33 cx33 kx33
  have bx33 := Fx33.binds (ps := ["rows", "rich"]) fun _ _ _ _ _ _ us hl => match us, hl with | [_, _], _ => rfl
  have Cx33 : ∀ base : Heap, K.In base → base.Ns mainGlobals mg → WP.Callee l.prog w K mg base CX0 1 "_law_changed" ["rows", "rich"] (sp__law_changed K mg) := fun base p1 p2 => WP.Callee.mk' (ok__law_changed Fx33 B ) (PySem.W.mg_of X G ax33) kx33 bx33
  have Fx34 := fun_mk (st := s_law) lx34 cx34 kx34
  exact ⟨PySem.W.fnOf "law" "law" (defArgs s_law) (defBody s_law) (defScope s_law) .none kVx34 dcx34 pmx34 anx34 cdx34 ctx34, fun s v => .of_eq rfl, fun base p1 p2 => ok_law Fx34 B (Cx6 base p1 p2) (Cx28 base p1 p2) (Cx32 base p1 p2) (Cx1 base p1 p2) (Cx33 base p1 p2) (Cx0 base p1 p2)⟩
theorem walk {l : PySem.W.OpenLaw} {q : Program} {loose : List Str} {XP : (Str → Option Value) → Heap → Prop} {YP : World → Heap → Prop} {d : DefRec} {K : Params → PySem.W.Frag} (hn : l.most = some 63) (hdf : d.params.defaults = [])
    (hY : ∀ (w : World) (h : Heap), YP w h → (K w.params).In h)
    (F : ∀ (w : World) (mg : Str → Option Value) (fa : Addr) (h : Heap), (K w.params).In h → h.Ns mainGlobals mg → mg d.name = some (.ref fa) →
      ∃ fd : FuncData, (∀ (s : Shared) (u : Value), BindsTo s fd ⟨[u], []⟩ [("script", u)]) ∧ ∀ base : Heap, (K w.params).In base → base.Ns mainGlobals mg → FnOk l.prog w (K w.params) mg base CX0 10 fa fd ["script"] (sp_law (K w.params))) :
    PySem.W.WalkO q loose XP YP l.row.toRowW d [] (fun f vs => PySem.call f vs) :=
  L2.walk_of (n := 63) (k := 10) (x := "script") (CX := fun _ => CX0) (sp := fun w => sp_law (K w.params)) hn (by decide) hdf ⟨rfl, by decide, by decide⟩ hY F (fun _ _ a ns hl _ hS => ⟨a, ns, rfl, hS, hl, fun _ => rfl⟩) fun _ _ _ _ _ z => z
end D
open PySem PySem.W PyProof.Rows
set_option maxRecDepth 100000 in
set_option maxHeartbeats 0 in
theorem PySem.Challenge.cw_cardwright_k21_data_that_stands_wrong_holds : PySem.Challenge.rw_cardwright_k21_data_that_stands_wrong.Holds := by
  w_on; o_law; k_head; (case hw => w_witness2)
  k_fill
  refine D.walk (l := PySem.Challenge.rw_cardwright_k21_data_that_stands_wrong) rfl rfl (fun w h Y => PySem.W.kIn_of Y) ?F
  case F =>
    intro w mg fa h KX G hmg
    refine' D.all_mk KX G hmg ?on_Item ?og_Item ?oh_Item ?oo_Item ?os_Item ?om_Item ?ok_Item ?ot_Item_0 ?ot_Item_1 ?ot_Item_2 ?ot_Item_3 ?ot_Item_4 ?ot_Item_5 ?ot_Item_6 ?ot_Item_7 ?on_Layout ?og_Layout ?oh_Layout ?oo_Layout ?os_Layout ?om_Layout ?ok_Layout ?ot_Layout_0 ?ot_Layout_1 ?on_BadData ?xo_BadData ?xx_BadData ?xc_BadData ?ot_BadData_0 ?ot_BadData_1 ?ax0 ?lx0 ?cx0 ?kx0 ?ax1 ?lx1 ?cx1 ?kx1 ?ax2 ?lx2 ?cx2 ?kx2 ?ax3 ?lx3 ?cx3 ?kx3 ?ax4 ?lx4 ?cx4 ?kx4 ?ax5 ?lx5 ?cx5 ?kx5 ?ax6 ?lx6 ?cx6 ?kx6 ?ax7 ?lx7 ?cx7 ?kx7 ?ax8 ?lx8 ?cx8 ?kx8 ?ax9 ?lx9 ?cx9 ?kx9 ?ax10 ?lx10 ?cx10 ?kx10 ?ax11 ?lx11 ?cx11 ?kx11 ?ax12 ?lx12 ?cx12 ?kx12 ?ax13 ?lx13 ?cx13 ?kx13 ?ax14 ?lx14 ?cx14 ?kx14 ?ax15 ?lx15 ?cx15 ?kx15 ?ax16 ?lx16 ?cx16 ?kx16 ?ax17 ?lx17 ?cx17 ?kx17 ?ax18 ?lx18 ?cx18 ?kx18 ?ax19 ?lx19 ?cx19 ?kx19 ?ax20 ?ix20 ?lx20 ?cx20 ?kx20 ?ax21 ?lx21 ?cx21 ?kx21 ?ax22 ?ix22 ?lx22 ?cx22 ?kx22 ?tfx22 ?ax23 ?lx23 ?cx23 ?kx23 ?ax24 ?lx24 ?cx24 ?kx24 ?ax25 ?lx25 ?cx25 ?kx25 ?ax26 ?lx26 ?cx26 ?kx26 ?ax27 ?ix27 ?lx27 ?cx27 ?kx27 ?ax28 ?lx28 ?cx28 ?kx28 ?ax29 ?lx29 ?cx29 ?kx29 ?ax30 ?lx30 ?cx30 ?kx30 ?ax31 ?lx31 ?cx31 ?kx31 ?ax32 ?lx32 ?cx32 ?kx32 ?ax33 ?lx33 ?cx33 ?kx33 ?ax34 ?lx34 ?cx34 ?kx34 ?z_abs ?z_enumerate ?z_int ?z_isinstance ?z_len ?z_list ?z_max ?z_range ?z_reversed ?z_str ?g_MOST_DIMENSIONS ?g_MOST_STORAGE ?n_BadPicture ?x_BadPicture ?kc_BadPicture ?tc_BadPicture ?hg_BadPicture ?hk_BadPicture ?hs_BadPicture ?hd_BadPicture ?ha_BadPicture ?hm_BadPicture ?hn_ ?ht_ ?s_BadData_BadData ?s_BadPicture_BadData
    (case on_Item => k_is); (case og_Item => k_is); (case oh_Item => k_is); (case oo_Item => k_is); (case os_Item => k_is); (case om_Item => k_is)
    (case ok_Item => k_is); (case ot_Item_0 => k_is); (case ot_Item_1 => k_is); (case ot_Item_2 => k_is); (case ot_Item_3 => k_is); (case ot_Item_4 => k_is)
    (case ot_Item_5 => k_is); (case ot_Item_6 => k_is); (case ot_Item_7 => k_is); (case on_Layout => k_is); (case og_Layout => k_is); (case oh_Layout => k_is)
    (case oo_Layout => k_is); (case os_Layout => k_is); (case om_Layout => k_is); (case ok_Layout => k_is); (case ot_Layout_0 => k_is); (case ot_Layout_1 => k_is)
    (case on_BadData => k_is); (case xo_BadData => exact ⟨⟨_, _, _, _, _, _, _, _, _, _, _, _, _, _, _, by k_is, by decide +kernel⟩, by k_is, by k_is, by k_is, by k_is⟩); (case xx_BadData => exact ⟨by k_is, by k_is, by k_is, by k_is⟩); (case xc_BadData => exact ⟨by k_is, by k_is, by k_is, by k_is, by k_is, by k_is, by k_is, by k_is⟩); (case ot_BadData_0 => k_is); (case ot_BadData_1 => k_is)
    (case ax0 => k_is); (case lx0 => k_is); (case cx0 => k_is); (case kx0 => k_is); (case ax1 => k_is); (case lx1 => k_is)
    (case cx1 => k_is); (case kx1 => k_is); (case ax2 => k_is); (case lx2 => k_is); (case cx2 => k_is); (case kx2 => k_is)
    (case ax3 => k_is); (case lx3 => k_is); (case cx3 => k_is); (case kx3 => k_is); (case ax4 => k_is); (case lx4 => k_is)
    (case cx4 => k_is); (case kx4 => k_is); (case ax5 => k_is); (case lx5 => k_is); (case cx5 => k_is); (case kx5 => k_is)
    (case ax6 => k_is); (case lx6 => k_is); (case cx6 => k_is); (case kx6 => k_is); (case ax7 => k_is); (case lx7 => k_is)
    (case cx7 => k_is); (case kx7 => k_is); (case ax8 => k_is); (case lx8 => k_is); (case cx8 => k_is); (case kx8 => k_is)
    (case ax9 => k_is); (case lx9 => k_is); (case cx9 => k_is); (case kx9 => k_is); (case ax10 => k_is); (case lx10 => k_is)
    (case cx10 => k_is); (case kx10 => k_is); (case ax11 => k_is); (case lx11 => k_is); (case cx11 => k_is); (case kx11 => k_is)
    (case ax12 => k_is); (case lx12 => k_is); (case cx12 => k_is); (case kx12 => k_is); (case ax13 => k_is); (case lx13 => k_is)
    (case cx13 => k_is); (case kx13 => k_is); (case ax14 => k_is); (case lx14 => k_is); (case cx14 => k_is); (case kx14 => k_is)
    (case ax15 => k_is); (case lx15 => k_is); (case cx15 => k_is); (case kx15 => k_is); (case ax16 => k_is); (case lx16 => k_is)
    (case cx16 => k_is); (case kx16 => k_is); (case ax17 => k_is); (case lx17 => k_is); (case cx17 => k_is); (case kx17 => k_is)
    (case ax18 => k_is); (case lx18 => k_is); (case cx18 => k_is); (case kx18 => k_is); (case ax19 => k_is); (case lx19 => k_is)
    (case cx19 => k_is); (case kx19 => k_is); (case ax20 => k_is); (case ix20 => k_is); (case lx20 => k_is); (case cx20 => k_is)
    (case kx20 => k_is); (case ax21 => k_is); (case lx21 => k_is); (case cx21 => k_is); (case kx21 => k_is); (case ax22 => k_is)
    (case ix22 => k_is); (case lx22 => k_is); (case cx22 => k_is); (case kx22 => k_is); (case tfx22 => k_is); (case ax23 => k_is)
    (case lx23 => k_is); (case cx23 => k_is); (case kx23 => k_is); (case ax24 => k_is); (case lx24 => k_is); (case cx24 => k_is)
    (case kx24 => k_is); (case ax25 => k_is); (case lx25 => k_is); (case cx25 => k_is); (case kx25 => k_is); (case ax26 => k_is)
    (case lx26 => k_is); (case cx26 => k_is); (case kx26 => k_is); (case ax27 => k_is); (case ix27 => k_is); (case lx27 => k_is)
    (case cx27 => k_is); (case kx27 => k_is); (case ax28 => k_is); (case lx28 => k_is); (case cx28 => k_is); (case kx28 => k_is)
    (case ax29 => k_is); (case lx29 => k_is); (case cx29 => k_is); (case kx29 => k_is); (case ax30 => k_is); (case lx30 => k_is)
    (case cx30 => k_is); (case kx30 => k_is); (case ax31 => k_is); (case lx31 => k_is); (case cx31 => k_is); (case kx31 => k_is)
    (case ax32 => k_is); (case lx32 => k_is); (case cx32 => k_is); (case kx32 => k_is); (case ax33 => k_is); (case lx33 => k_is)
    (case cx33 => k_is); (case kx33 => k_is); (case ax34 => k_is); (case lx34 => k_is); (case cx34 => k_is); (case kx34 => k_is)
    (case z_abs => k_is); (case z_enumerate => k_is); (case z_int => k_is); (case z_isinstance => k_is); (case z_len => k_is); (case z_list => k_is)
    (case z_max => k_is); (case z_range => k_is); (case z_reversed => k_is); (case z_str => k_is); (case g_MOST_DIMENSIONS => k_is); (case g_MOST_STORAGE => k_is)
    (case n_BadPicture => k_is); (case x_BadPicture => k_exc); (case kc_BadPicture => k_is); (case tc_BadPicture => k_is); (case hg_BadPicture => k_is); (case hk_BadPicture => k_is)
    (case hs_BadPicture => k_is); (case hd_BadPicture => k_is); (case ha_BadPicture => k_is); (case hm_BadPicture => k_is); (case hn_ => k_is); (case ht_ => k_is)
    (case s_BadData_BadData => k_is); (case s_BadPicture_BadData => k_is)
#print axioms PySem.Challenge.cw_cardwright_k21_data_that_stands_wrong_holds
