import PyProof.Rows.All
import Wide.All
import OpenK.AllK
import Wide.FinOn
import HandS.ForMost
import HandS.Wide
import HandS.IsInst
import HandS.Evl
import HandS.ForExc
import HandS.ExcIs
import HandS.WideBits
import HandS.AnyAll
import HandS.Codes
import HandS.Comp
import HandS.Dict
import HandS.EndTab
import HandS.Evl
import HandS.ExcCtx
import HandS.ExcField
import HandS.ExcInit
import HandS.ExcInitHot
import HandS.HotCalls
import HandS.Iter
import HandS.MapJoin
import HandS.MapObj
import HandS.More
import HandS.ReplaceDef
import HandS.ReplaceList
import HandS.ReplaceLit
import HandS.Rev
import HandS.RevTup
import HandS.Sort
import HandS.StrMore
import HandS.Style
import HandS.Text
import HandS.Walk
import HandS.Zip
import KE.GoesEnumKw
import KE.KExcIs
import KE.KSortTupG
import PySem.Challenge.RW_cardwright_k30_tokens
set_option Elab.async false
set_option linter.all false
set_option maxRecDepth 100000
set_option maxHeartbeats 4000000
namespace WP
open PySem PySem.Spec PyProof.Rows L2

/-! ### a def that may be called -/
structure Callee (P : Program) (w : World) (K : PySem.W.Frag) (mg : Str → Option Value) (base : Heap) (CX : CXT) (lv : Nat) (nm : Str) (ps : List Str) (sp : Sp) : Prop where
  ex : ∃ (f : Addr) (fd : FuncData), FnOk P w K mg base CX lv f fd ps sp ∧ mg nm = some (.ref f) ∧ PySem.W.keepIn K (.ref f) = true ∧ Binds K fd ps []
theorem Callee.mk' {P : Program} {w : World} {K : PySem.W.Frag} {mg : Str → Option Value} {base : Heap} {CX : CXT} {lv : Nat} {nm : Str} {ps : List Str} {sp : Sp} {f : Addr} {fd : FuncData}
    (h : FnOk P w K mg base CX lv f fd ps sp) (m : mg nm = some (.ref f)) (k : PySem.W.keepIn K (.ref f) = true) (b : Binds K fd ps []) : Callee P w K mg base CX lv nm ps sp := ⟨⟨f, fd, h, m, k, b⟩⟩
section
variable {X : Cx} {CX : CXT} {k j : Nat} {ps : List Str} {sp : Sp} {E : XK} {x : Str} {p pos : Pos} {e : Expr} {es : List Expr} {t : TA}
theorem pe_callC (C : Callee X.prog X.w X.K X.mg X.base CX k x ps sp) (hr : Room j X.A) (hg : Gl X x) (hx : Passes CX X E) (ha : PA X (e :: es) t) (hl : k ≤ j := by decide)
    (hdb : (x == ("__debug__" : Str)) = false := by decide) (he : starEach (e :: es) X.env = (false, eval e X.env) :: starEach es X.env := by rfl) (hpl : (backTo pos (starEach es X.env)).any (·.1) = false := by rfl) :
    PE X (.Call (.Name x p) (e :: es) [] pos) (tCall sp [] E t) := by
  obtain ⟨f, fd, F, hm, hk, hb⟩ := C.ex
  exact pe_call F (hr.mono hl) hg hm hk hb .nil hx ha hdb he hpl
theorem pe_callC0 (C : Callee X.prog X.w X.K X.mg X.base CX k x ps sp) (hr : Room j X.A) (hg : Gl X x) (hx : Passes CX X E) (hl : k ≤ j := by decide)
    (hdb : (x == ("__debug__" : Str)) = false := by decide) : PE X (.Call (.Name x p) [] [] pos) (tCall sp [] E tNil) := by
  obtain ⟨f, fd, F, hm, hk, hb⟩ := C.ex
  exact pe_call0 F (hr.mono hl) hg hm hk hb .nil hx hdb
end

/-! ### readings, a step at a time -/
section
variable {σ : L2.St} {H : Hp} {D : Ends} {t u : TS} {te ta tb : TE} {tt tu : TT} {g : TG} {Q : VK} {QB : Bool → Hp → Prop} {QA : List V → Hp → Prop} {r : R2} {i j : Int} {n : Nat} {v x y : V}
theorem seq (h : t { D with nx := u D } σ H) : tSeq t u D σ H := h
theorem asg (h : te σ H fun x H1 => g x σ H1 D.nx) : tAsg te g D σ H := h
theorem name {QS : L2.St → Hp → Prop} (h : QS (σ.set n (some v)) H) : gName n v σ H QS := h
theorem var (e : σ[n]? = some (some v)) (h : Q v H) : tVar n σ H Q := ⟨v, e, h⟩
theorem con (h : Q v H) : tC v σ H Q := h
theorem op (h : ta σ H fun x H1 => tb σ H1 fun y H2 => r x y H2 Q) : tOp r ta tb σ H Q := h
theorem un {ru : V → Hp → VK → Prop} (h : ta σ H fun x H1 => ru x H1 Q) : tUn ru ta σ H Q := h
theorem rU_ {g : Int → V} (h : Q (g i) H) : rU g (.int i) H Q := ⟨i, rfl, h⟩
theorem i0 {g : Int → Int → V} (h : Q (g i j) H) : rI0 g (.int i) (.int j) H Q := ⟨i, j, rfl, rfl, h⟩
theorem iC {C : Int → Int → Prop} {g : Int → Int → V} (c : C i j) (h : Q (g i j) H) : rI C g (.int i) (.int j) H Q := ⟨i, j, rfl, rfl, c, h⟩
theorem eqS (s : scal x y = true) (h : Q (.bl (decide (x = y))) H) : rEq x y H Q := ⟨s, h⟩
theorem neS (s : scal x y = true) (h : Q (.bl (!decide (x = y))) H) : rNe x y H Q := ⟨s, h⟩
theorem ifS (h : tt σ H fun b H1 => if b = true then t D σ H1 else u D σ H1) : tIfS tt t u D σ H := h
theorem ifE (h : tt σ H fun b H1 => if b = true then ta σ H1 Q else tb σ H1 Q) : tIf tt ta tb σ H Q := h
theorem test (h : te σ H fun x H1 => ∃ k, x = .bl k ∧ QB k H1) : tTest te σ H QB := h
theorem bt (h : te σ H fun x H1 => ∃ k, x = .bl k ∧ QB k H1) : tB te σ H QB := h
theorem isb {b : Bool} (h : QB b H) : ∃ k, V.bl b = V.bl k ∧ QB k H := ⟨b, rfl, h⟩
theorem ret (h : te σ H D.rt) : tRet te D σ H := h
theorem retN (h : D.rt .non H) : tRetN D σ H := h
theorem drop (h : te σ H fun _ H1 => D.nx σ H1) : tDrop te D σ H := h
theorem next (h : D.nx σ H) : tNext D σ H := h
theorem brk (h : D.bk σ H) : tBreak D σ H := h
theorem cont (h : D.ct σ H) : tCont D σ H := h
theorem cb {rc : List V → Hp → VK → Prop} {a : TA} (h : a σ H fun vs H1 => rc vs H1 Q) : tCB rc a σ H Q := h
theorem call {sp : Sp} {E : XK} {a : TA} (h : a σ H fun vs H1 => sp (vs ++ []) H1 Q E) : tCall sp [] E a σ H Q := h
theorem cons {a : TA} (h : te σ H fun x H1 => a σ H1 fun xs H2 => QA (x :: xs) H2) : tCons te a σ H QA := h
theorem nil (h : QA [] H) : tNil σ H QA := h
theorem tup {a : TA} (h : a σ H fun xs H1 => xs.length ≤ sizeLine ∧ ∀ p, H1 p = none → Q (.ref p) (upd H1 p (.tup xs))) : tTup a σ H Q := h
theorem lst {a : TA} (h : a σ H fun xs H1 => xs.length ≤ sizeLine ∧ ∀ p, H1 p = none → Q (.ref p) (upd H1 p (.lst xs))) : tLst a σ H Q := h
theorem notT (h : tt σ H fun c H1 => QB (!c) H1) : tNot tt σ H QB := h
theorem andT (h : tt σ H fun c H1 => if c = true then tu σ H1 QB else QB false H1) : tAnd tt tu σ H QB := h
theorem orT (h : tt σ H fun c H1 => if c = true then QB true H1 else tu σ H1 QB) : tOr tt tu σ H QB := h
theorem andV (h : ta σ H fun x H1 => ∃ c, x = .bl c ∧ if c = true then tb σ H1 Q else Q (.bl false) H1) : tAndV ta tb σ H Q := h
theorem orV (h : ta σ H fun x H1 => ∃ c, x = .bl c ∧ if c = true then Q (.bl true) H1 else tb σ H1 Q) : tOrV ta tb σ H Q := h
theorem notV (h : ta σ H fun x H1 => ∃ c, x = .bl c ∧ Q (.bl (!c)) H1) : tNotV ta σ H Q := h
theorem isbV {b : Bool} {R : Bool → Prop} (h : R b) : ∃ k, V.bl b = V.bl k ∧ R k := ⟨b, rfl, h⟩
theorem sl {r : V → Option Int → Option Int → Hp → VK → Prop} {tl th : TO} (h : te σ H fun x H1 => tl σ H1 fun l H2 => th σ H2 fun u H3 => r x l u H3 Q) : tSl r te tl th σ H Q := h
theorem noPart {QO : Option Int → Hp → Prop} (h : QO none H) : tNoPart σ H QO := h
theorem part {QO : Option Int → Hp → Prop} (h : te σ H fun x H1 => ∃ i, x = .int i ∧ QO (some i) H1) : tPart te σ H QO := h
theorem isi {R : Int → Prop} (h : R i) : ∃ k, V.int i = V.int k ∧ R k := ⟨i, rfl, h⟩
/-- tests -/
theorem br {c A B : Prop} [Decidable c] (h1 : c → A) (h2 : ¬ c → B) : if decide c = true then A else B := by
  by_cases h : c
  · rw [decide_eq_true h, if_pos rfl]; exact h1 h
  · rw [decide_eq_false h, if_neg Bool.false_ne_true]; exact h2 h
theorem brN {c A B : Prop} [Decidable c] (h1 : ¬ c → A) (h2 : c → B) : if (!decide c) = true then A else B := by
  by_cases h : c
  · rw [decide_eq_true h]; exact iteF (h2 h)
  · rw [decide_eq_false h]; exact iteT (h1 h)
theorem brT {b : Bool} {A B : Prop} (e : b = true) (h : A) : if b = true then A else B := by rw [if_pos e]; exact h
theorem brF {b : Bool} {A B : Prop} (e : b = false) (h : B) : if b = true then A else B := by rw [if_neg (by rw [e]; exact Bool.false_ne_true)]; exact h
theorem brB {b : Bool} {A B : Prop} (h1 : b = true → A) (h2 : b = false → B) : if b = true then A else B := by
  cases b
  · exact iteF (h2 rfl)
  · exact iteT (h1 rfl)
theorem dec_int {i j : Int} : decide (V.int i = V.int j) = decide (i = j) := by
  by_cases h : i = j
  · rw [decide_eq_true h, decide_eq_true (congrArg V.int h)]
  · rw [decide_eq_false h, decide_eq_false fun e => h (V.int.inj e)]
theorem dec_str {i j : Str} : decide (V.str i = V.str j) = decide (i = j) := by
  by_cases h : i = j
  · rw [decide_eq_true h, decide_eq_true (congrArg V.str h)]
  · rw [decide_eq_false h, decide_eq_false fun e => h (V.str.inj e)]
theorem dec_bl {i j : Bool} : decide (V.bl i = V.bl j) = decide (i = j) := by
  by_cases h : i = j
  · rw [decide_eq_true h, decide_eq_true (congrArg V.bl h)]
  · rw [decide_eq_false h, decide_eq_false fun e => h (V.bl.inj e)]
theorem eqI (h : Q (.bl (decide (i = j))) H) : rEq (.int i) (.int j) H Q := ⟨rfl, by rw [dec_int]; exact h⟩
theorem neI (h : Q (.bl (!decide (i = j))) H) : rNe (.int i) (.int j) H Q := ⟨rfl, by rw [dec_int]; exact h⟩
theorem eqT {a b : Str} (h : Q (.bl (decide (a = b))) H) : rEq (.str a) (.str b) H Q := ⟨rfl, by rw [dec_str]; exact h⟩
theorem neT {a b : Str} (h : Q (.bl (!decide (a = b))) H) : rNe (.str a) (.str b) H Q := ⟨rfl, by rw [dec_str]; exact h⟩
theorem eqB {a b : Bool} (h : Q (.bl (decide (a = b))) H) : rEq (.bl a) (.bl b) H Q := ⟨rfl, by rw [dec_bl]; exact h⟩
theorem neB {a b : Bool} (h : Q (.bl (!decide (a = b))) H) : rNe (.bl a) (.bl b) H Q := ⟨rfl, by rw [dec_bl]; exact h⟩
end
/-! ### numbers of a known number of bits -/
theorem sz2 : (2 : Nat) ≤ sizeLine := by rw [sizeLine_eq]; decide
theorem sz {n : Nat} (h : n ≤ 1000000) : n ≤ sizeLine := by rw [sizeLine_eq]; omega
end WP
namespace WP
open PySem PySem.Spec PyProof.Rows L2
section
variable {X : Cx} {x : Str} {v : V} {pos : Pos}
theorem pe_const (hg : Gl X x) (h : ∃ u, X.mg x = some u ∧ RelV v u) (hd : (x == ("__debug__" : Str)) = false := by decide) : PE X (.Name x pos) (tC v) := by
  obtain ⟨u, hm, r⟩ := h
  exact pe_glob hg hm r hd
end
/-- a number of at most a bits -/
def Bt (i : Int) (a : Nat) : Prop := i.natAbs < 2 ^ a
theorem Bt.mono {i : Int} {a b : Nat} (h : Bt i a) (l : a ≤ b) : Bt i b := Nat.lt_of_lt_of_le h (Nat.pow_le_pow_right (by decide) l)
theorem Bt.mul {i j : Int} {a b : Nat} (h : Bt i a) (k : Bt j b) : Bt (i * j) (a + b) := wide_lt h k
theorem Bt.neg {i : Int} {a : Nat} (h : Bt i a) : Bt (-i) a := by unfold Bt at *; rw [Int.natAbs_neg]; exact h
theorem Bt.add {i j : Int} {a : Nat} (h : Bt i a) (k : Bt j a) : Bt (i + j) (a + 1) := by
  unfold Bt at *
  have := Int.natAbs_add_le i j
  rw [Nat.pow_succ]; omega
theorem Bt.sub {i j : Int} {a : Nat} (h : Bt i a) (k : Bt j a) : Bt (i - j) (a + 1) := by
  rw [Int.sub_eq_add_neg]; exact h.add k.neg
theorem Bt.le {i j : Int} {a : Nat} (h : Bt i a) (k : j.natAbs ≤ i.natAbs) : Bt j a := Nat.lt_of_le_of_lt k h
theorem Bt.ten (n : Nat) : Bt (10 ^ n) (4 * n + 1) := by
  unfold Bt
  have e : ((10 : Int) ^ n).natAbs = 10 ^ n := by rw [Int.natAbs_pow]; rfl
  rw [e]
  have h : 10 ^ n ≤ 16 ^ n := Nat.pow_le_pow_left (by decide) n
  have h2 : (16 : Nat) ^ n = 2 ^ (4 * n) := by rw [show (16 : Nat) = 2 ^ 4 from rfl, ← Nat.pow_mul]
  rw [h2] at h
  rw [Nat.pow_succ]
  have : 0 < 2 ^ (4 * n) := Nat.pow_pos (by decide)
  omega
theorem Bt.w {i j : Int} {a b : Nat} (h : Bt i a) (k : Bt j b) (l : a + b ≤ 999998 := by omega) : CMulW i j :=
  wide_mul (h.mono (Nat.le_succ a)) (k.mono (Nat.le_succ b)) (Nat.succ_pos _) (Nat.succ_pos _) (by omega)
theorem Bt.d {j : Int} {b : Nat} (h : 0 < j) (k : Bt j b) (l : b ≤ 8999 := by omega) : CDivW 0 j := wide_div h (k.mono (Nat.le_succ b)) (Nat.succ_pos _) (by omega)
theorem Bt.d' {i j : Int} {b : Nat} (h : 0 < j) (k : Bt j b) (l : b ≤ 8999 := by omega) : CDivW i j := Bt.d h k l
theorem ten_pos (n : Nat) : (0 : Int) < 10 ^ n := Int.pow_pos (by decide)
end WP
namespace WP
open PySem PySem.Spec PyProof.Rows L2
/-! ### what comes back -/
def RetT (xs : List V) (H : Hp) (Q : VK) : Prop := ∀ p H', Same H H' → H' p = some (.tup xs) → Q (.ref p) H'
def RetL (xs : List V) (H : Hp) (Q : VK) : Prop := ∀ p H', H p = none → Same H H' → H' p = some (.lst xs) → Q (.ref p) H'
def RetV (v : V) (H : Hp) (Q : VK) : Prop := ∀ H', Same H H' → Q v H'
theorem same_new {H : Hp} {p : Addr} {o : HO} (h : H p = none) : Same H (upd H p o) := fun b u e => by
  rw [upd_ne (ne_of_none e h)]; exact e
theorem same_mut {H H' : Hp} {p : Addr} {o : HO} (e : Same H H') (h : H p = none) : Same H (upd H' p o) := fun a u ha => by
  rw [upd_ne (ne_of_none ha h)]; exact e a u ha
theorem sqt {K : PySem.W.Frag} {H H' : Hp} {a : Addr} {xs : List V} (e : Same H H') (h : SqT K H a xs) : SqT K H' a xs := by
  rcases h with (h | ⟨o, h⟩) | h
  · exact .inl (.inl (e _ _ h))
  · exact .inl (.inr ⟨o, e _ _ h⟩)
  · exact .inr h
theorem RetT.new {xs : List V} {H H' : Hp} {Q : VK} (k : RetT xs H Q) (e : Same H H') : ∀ p, H' p = none → Q (.ref p) (upd H' p (.tup xs)) := fun p hp =>
  k p _ (e.trans (same_new hp)) upd_same
theorem RetL.new {xs : List V} {H H' : Hp} {Q : VK} (k : RetL xs H Q) (e : Same H H') : ∀ p, H' p = none → Q (.ref p) (upd H' p (.lst xs)) := fun p hp =>
  k p _ (e.free hp) (e.trans (same_new hp)) upd_same
/-- a decimal's two parts -/
abbrev dv (u : Int) (s : Nat) : List V := [.int u, .int (s : Int)]
theorem at0 {α : Type} {x : α} {xs : List α} : atI (x :: xs) (0 : Int) = some x := atI_nat (j := 0) rfl
theorem at1 {α : Type} {x y : α} {xs : List α} : atI (x :: y :: xs) (1 : Int) = some y := atI_nat (j := 1) rfl
theorem at2 {α : Type} {x y z : α} {xs : List α} : atI (x :: y :: z :: xs) (2 : Int) = some z := atI_nat (j := 2) rfl
theorem at3 {α : Type} {x y z u : α} {xs : List α} : atI (x :: y :: z :: u :: xs) (3 : Int) = some u := atI_nat (j := 3) rfl
theorem at4 {α : Type} {x y z u v : α} {xs : List α} : atI (x :: y :: z :: u :: v :: xs) (4 : Int) = some v := atI_nat (j := 4) rfl
section
variable {K : PySem.W.Frag} {H : Hp} {p : Addr} {xs : List V} {v : V} {i : Int} {Q : VK}
theorem ixT (h : SqT K H p xs) (a : atI xs i = some v) (q : Q v H) : rIxT K (.ref p) (.int i) H Q := ⟨p, xs, i, v, rfl, rfl, h, a, q⟩
theorem ixL (h : SqL K H p xs) (a : atI xs i = some v) (q : Q v H) : rIxL K (.ref p) (.int i) H Q := ⟨p, xs, i, v, rfl, rfl, h, a, q⟩
theorem unT {n : Nat} {t : TGs} {σ : L2.St} {QS : L2.St → Hp → Prop} (h : SqT K H p xs) (l : xs.length = n) (q : t xs σ H QS) : gTup K n t (.ref p) σ H QS := ⟨p, xs, rfl, h, l, q⟩
theorem gsCons {g : TG} {gs : TGs} {x : V} {r : List V} {σ : L2.St} {QS : L2.St → Hp → Prop} (q : g x σ H fun σ' H' => gs r σ' H' QS) : gCons g gs (x :: r) σ H QS := ⟨x, r, rfl, q⟩
theorem gsNil {σ : L2.St} {QS : L2.St → Hp → Prop} (q : QS σ H) : gNil [] σ H QS := ⟨rfl, q⟩
end
end WP
namespace WP
open PySem PySem.Spec PyProof.Rows L2
section
variable {K : PySem.W.Frag} {H : Hp} {p : Addr} {xs : List V} {v x : V} {i : Int} {Q : VK} {σ : L2.St} {D : Ends}
theorem forl {wi : TI} {g : TG} {tb : TS} (h : wi σ H fun J H1 => ∃ W : Nat → Nat → L2.St → Hp → Prop, (∃ m, W 0 m σ H1) ∧ ∀ i m σ H, W i m σ H →
  (J.stop i H ∧ D.nx σ H) ∨ (J.go i H ∧ ∃ N : L2.St → Hp → Prop, (∀ σ' H', N σ' H' → ∃ m', m' < m ∧ W (i + 1) m' σ' H') ∧ ∀ x H', J.yld i H x H' → g x σ H' fun σ2 H2 => tb { D with nx := N, ct := N, bk := D.nx } σ2 H2)) : tFor wi g tb D σ H := h
theorem rng1 {ta : TA} {R : It → Hp → Prop} (h : ta σ H fun vs H1 => ∃ j : Int, vs = [.int j] ∧ -(2 ^ 62) ≤ j ∧ j < 2 ^ 62 ∧ R (Itr 0 j.toNat) H1) : iRng1 ta σ H R := h
theorem rng2 {ta : TA} {R : It → Hp → Prop} (h : ta σ H fun vs H1 => ∃ i j : Int, vs = [.int i, .int j] ∧ (-(2 ^ 62) ≤ i ∧ i < 2 ^ 62 ∧ -(2 ^ 62) ≤ j ∧ j < 2 ^ 62) ∧ R (Itr i (j - i).toNat) H1) : iRng2 ta σ H R := h
theorem walkL {tl : TE} {R : It → Hp → Prop} (h : tl σ H fun x H1 => ∃ a, x = .ref a ∧ (∃ xs, SqL K H1 a xs) ∧ R (Itl K a) H1) : iList K tl σ H R := h
theorem walkT {tl : TE} {R : It → Hp → Prop} (h : tl σ H fun x H1 => ∃ a, x = .ref a ∧ (∃ xs, SqT K H1 a xs) ∧ R (Itt K a) H1) : iTup K tl σ H R := h
theorem isT {t n : String} {b : Bool} (ty : TyX K H x (.type t)) (q : Q (.bl b) H) (hb : kitB t n = some b := by decide +kernel) : rIsi K [x, .ty n] H Q :=
  ⟨x, .ty n, _, _, b, rfl, ClsV.ty n, ty, kit_ty hb, q⟩
theorem isY {t n : String} (ty : TyX K H x (.type t)) (q : Q (.bl true) H) (hb : kitB t n = some true := by decide +kernel) : rIsi K [x, .ty n] H Q := isT ty q hb
theorem isN {t n : String} (ty : TyX K H x (.type t)) (q : Q (.bl false) H) (hb : kitB t n = some false := by decide +kernel) : rIsi K [x, .ty n] H Q := isT ty q hb
def rLen (K : PySem.W.Frag) : List V → Hp → VK → Prop := fun xs H Q => ∃ x n, xs = [x] ∧ LenV K x H n ∧ Q (.int (n : Nat)) H
theorem c_len {X : Cx} : CallR X (.builtin "len") (rLen X.K) := call_len
theorem lenL (h : SqL K H p xs) (q : Q (.int (xs.length : Int)) H) : rLen K [V.ref p] H Q := ⟨_, _, rfl, .inl ⟨xs, h, rfl⟩, q⟩
theorem lenT (h : SqT K H p xs) (q : Q (.int (xs.length : Int)) H) : rLen K [V.ref p] H Q := ⟨_, _, rfl, .inr ⟨xs, h, rfl⟩, q⟩
theorem lenS {z : Str} (h : z.length ≤ sizeLine) (q : Q (.int (z.length : Int)) H) : rLen K [V.str z] H Q := ⟨_, _, rfl, ⟨h, rfl⟩, q⟩
def rInt1 : List V → Hp → VK → Prop := fun xs H Q => (∃ i, xs = [.int i] ∧ Q (.int i) H) ∨ ∃ k, xs = [.bl k] ∧ Q (.int (if k then 1 else 0)) H
theorem c_int1 {X : Cx} : CallR X (.type "int") rInt1 := call_int1
theorem intI (q : Q (.int i) H) : rInt1 [V.int i] H Q := .inl ⟨i, rfl, q⟩
theorem intB {b : Bool} (q : Q (.int (if b then 1 else 0)) H) : rInt1 [V.bl b] H Q := .inr ⟨b, rfl, q⟩
def rAbs : List V → Hp → VK → Prop := fun xs H Q => ∃ i, xs = [.int i] ∧ Q (.int (if i < 0 then -i else i)) H
theorem c_abs {X : Cx} : CallR X (.builtin "abs") rAbs := call_abs
theorem absI (q : Q (.int (i.natAbs : Int)) H) : rAbs [V.int i] H Q := ⟨i, rfl, by
  have e : (if i < 0 then -i else i) = (i.natAbs : Int) := by split <;> omega
  rw [e]; exact q⟩
def rMax2 : List V → Hp → VK → Prop := fun xs H Q => ∃ i j, xs = [.int i, .int j] ∧ Q (.int (if j > i then j else i)) H
def rMin2 : List V → Hp → VK → Prop := fun xs H Q => ∃ i j, xs = [.int i, .int j] ∧ Q (.int (if j < i then j else i)) H
theorem c_max2 {X : Cx} (hc : X.calm = true) : CallR X (.builtin "max") rMax2 := call_max2 hc
theorem c_min2 {X : Cx} (hc : X.calm = true) : CallR X (.builtin "min") rMin2 := call_min2 hc
theorem maxI {j : Int} (q : Q (.int (max i j)) H) : rMax2 [V.int i, V.int j] H Q := ⟨i, j, rfl, by
  have e : (if j > i then j else i) = max i j := by split <;> omega
  rw [e]; exact q⟩
theorem minI {j : Int} (q : Q (.int (min i j)) H) : rMin2 [V.int i, V.int j] H Q := ⟨i, j, rfl, by
  have e : (if j < i then j else i) = min i j := by split <;> omega
  rw [e]; exact q⟩
def rStrI : List V → Hp → VK → Prop := fun xs H Q => ∃ i : Int, xs = [.int i] ∧ i.natAbs.log2 < 1920 ∧ Q (.str (toString i)) H
theorem c_str {X : Cx} : CallR X (.type "str") rStrI := call_str_int
theorem strI (h : i.natAbs.log2 < 1920) (q : Q (.str (toString i)) H) : rStrI [V.int i] H Q := ⟨i, rfl, h, q⟩
def rListOf (K : PySem.W.Frag) : List V → Hp → VK → Prop := fun xs H Q => ∃ p ys, xs = [.ref p] ∧ (SqL K H p ys ∨ SqT K H p ys) ∧ ∀ l, H l = none → Q (.ref l) (upd H l (.lst ys))
theorem c_listOf {X : Cx} : CallR X (.type "list") (rListOf X.K) := call_list_of
theorem listL (h : SqL K H p xs) (q : ∀ l, H l = none → Q (.ref l) (upd H l (.lst xs))) : rListOf K [V.ref p] H Q := ⟨p, xs, rfl, .inl h, q⟩
theorem listT (h : SqT K H p xs) (q : ∀ l, H l = none → Q (.ref l) (upd H l (.lst xs))) : rListOf K [V.ref p] H Q := ⟨p, xs, rfl, .inr h, q⟩
def rTupOf (K : PySem.W.Frag) : List V → Hp → VK → Prop := fun xs H Q => ∃ p ys, xs = [.ref p] ∧ ((SqL K H p ys ∧ ∀ l, H l = none → Q (.ref l) (upd H l (.tup ys))) ∨ (SqT K H p ys ∧ Q (.ref p) H))
theorem c_tupOf {X : Cx} : CallR X (.type "tuple") (rTupOf X.K) := call_tuple_of
theorem tupL (h : SqL K H p xs) (q : ∀ l, H l = none → Q (.ref l) (upd H l (.tup xs))) : rTupOf K [V.ref p] H Q := ⟨p, xs, rfl, .inl ⟨h, q⟩⟩
def rOrd : List V → Hp → VK → Prop := fun xs H Q => ∃ x : Str, xs = [.str x] ∧ x.length = 1 ∧ Q (.int (x.cps.getD 0 0 : Nat)) H
theorem c_ord {X : Cx} : CallR X (.builtin "ord") rOrd := call_ord
theorem ordS {z : Str} (h : z.length = 1) (q : Q (.int (z.cps.getD 0 0 : Nat)) H) : rOrd [V.str z] H Q := ⟨z, rfl, h, q⟩
def rDivmod : List V → Hp → VK → Prop := fun xs H Q => ∃ i j, xs = [.int i, .int j] ∧ CDiv i j ∧ ∀ p, H p = none → Q (.ref p) (upd H p (.tup [.int (i / j), .int (i % j)]))
theorem c_divmod {X : Cx} : CallR X (.builtin "divmod") rDivmod := call_divmod
theorem sql {H' : Hp} {a : Addr} (e : Same H H') (h : SqL K H a xs) : SqL K H' a xs := e.seq h
theorem at_ints {ns : List Int} (h0 : 0 ≤ i) (h1 : i < (ns.length : Int)) : atI (ns.map V.int) i = some (.int (ns.getD i.toNat 0)) := by
  have e : i = ((i.toNat : Nat) : Int) := (Int.toNat_of_nonneg h0).symm
  rw [e]
  refine atI_nat ?_
  have hl : i.toNat < ns.length := by omega
  rw [List.getElem?_map, List.getElem?_eq_getElem hl, Int.toNat_natCast, List.getD_eq_getElem?_getD, List.getElem?_eq_getElem hl]
  rfl
end
end WP
namespace WP
open PySem PySem.Spec PyProof.Rows L2
section
variable {X : Cx}
theorem cut {t u : TS} {D : Ends} {σ : L2.St} {H : Hp} (Mid : L2.St → Hp → Prop) (h : t { D with nx := Mid } σ H) (k : ∀ σ' H', Mid σ' H' → u D σ' H') : Evl.tCut t u D σ H := ⟨Mid, h, k⟩
end
/-! ### == of data -/
section
variable {K : PySem.W.Frag} {H : Hp} {x y : V} {d e : PyData} {Q : VK}
theorem eqD (a : Dp K H x d) (b : Dp K H y e) (h : Q (.bl (PyData.eqv d e)) H) (s1 : SeqAt.shaped d = true := by first | rfl | decide +kernel) (s2 : SeqAt.shaped e = true := by first | rfl | decide +kernel) : rEqD K x y H Q := ⟨d, e, a, b, s1, s2, h⟩
theorem neD (a : Dp K H x d) (b : Dp K H y e) (h : Q (.bl (!PyData.eqv d e)) H) (s1 : SeqAt.shaped d = true := by first | rfl | decide +kernel) (s2 : SeqAt.shaped e = true := by first | rfl | decide +kernel) : rNeD K x y H Q := ⟨d, e, a, b, s1, s2, h⟩
theorem dpv {p : Addr} {u : Int} {s : Nat} (h : SqT K H p (dv u s)) : Dp K H (.ref p) (.tuple [.int u, .int (s : Int)]) := .tup h (.cons (.int _) (.cons (.int _) .nil))
end
end WP
namespace WP
open PySem PySem.Spec PyProof.Rows L2
abbrev MG := Str → Option Value
/-- the address that a module's name holds -/
def ca (mg : MG) (nm : Str) : Addr := match mg nm with
  | some (.ref a) => a
  | _ => 0
theorem ca_of {mg : MG} {nm : Str} {a : Addr} (h : mg nm = some (.ref a)) : ca mg nm = a := by unfold ca; rw [h]
/-! ### own exceptions without an __init__ of their own -/
structure ExcAt (K : PySem.W.Frag) (C : Addr) : Prop where
  x : PySem.W.excIn K C [.type "ValueError", .type "Exception", .type "BaseException", .type "object"] "ValueError.__new__" = true
  k : PySem.W.keepIn K (.ref C) = true
  t : PySem.W.typeIn K (.ref C) = some (.type "type")
  c : ExcC K C
structure ExcOk (K : PySem.W.Frag) (mg : MG) (nm : Str) : Prop where
  m : mg nm = some (.ref (ca mg nm))
  a : ExcAt K (ca mg nm)
theorem ExcOk.mk' {K : PySem.W.Frag} {mg : MG} {nm : Str} {C : Addr} (h : mg nm = some (.ref C)) (x : ExcAt K C) : ExcOk K mg nm := by
  have e := ca_of h
  exact ⟨by rw [e]; exact h, by rw [e]; exact x⟩
theorem ExcAt.raises {X : Cx} {C : Addr} (x : ExcAt X.K C) : Raises X (.ref C) := raises_own x.c.hs x.t
theorem ExcAt.catches {K : PySem.W.Frag} {C : Addr} (x : ExcAt K C) {cls : Value} {b : Bool} (h : PySem.W.subIn K cls (.ref C) = some b) : PySem.W.exmOne K cls (.ref C) = some b := PySem.W.exm_ref x.c.hs x.c.hd x.t h
section
variable {X : Cx} {x m : Str} {j : Nat} {p p2 pos pos2 : Pos} {W : WX}
theorem ps_raiseC (hc : X.calm = true) (tk : Takes X W) (e : ExcOk X.K X.mg x) (hg : Gl X x) (hdb : (x == ("__debug__" : Str)) = false := by decide) :
    PS X (.Raise (some (.Call (.Name x p) [.Constant (.str m) j p2] [] pos)) none pos2) (fun _ σ H => W (.ref (ca X.mg x)) none σ H) :=
  ps_raise hc tk (pmk_own PySem.F.excBase_ValueError e.a.x e.m e.a.k e.a.raises hg hdb)
end
/-- isinstance of the caught error -/
def rIsX (K : PySem.W.Frag) (a : Addr) (cls : Value) (d : Option Addr) : List V → Hp → VK → Prop := fun xs H Q => ∃ D, cls = .ref D ∧ d = none ∧ ExcC K D ∧ rIsE K D a xs H Q
theorem call_isX {X : Cx} {a : Addr} {oe : Obj} {cls : Value} {d : Option Addr} {pn : List (Addr × Obj)} (hz : Zc cls d oe) (hf : ∃ vs, oe.data = .fields vs) : CallR (X.suite a ((a, oe) :: pn)) (.builtin "isinstance") (rIsX X.K a cls d) := by
  intro pins s σ H xs us Q I r h
  obtain ⟨D, rfl, rfl, c, h⟩ := h
  exact call_isE c hz hf pins s σ H xs us Q I r h
theorem isX {K : PySem.W.Frag} {a D C : Addr} {b : Bool} {H : Hp} {Q : VK} (c : ExcC K D) (h : PySem.W.kitOne K (.ref D) (.ref C) = some b) (q : Q (.bl b) H) : rIsX K a (.ref D) none [.ref a, .ref C] H Q :=
  ⟨D, rfl, rfl, c, .ref C, .ref C, b, rfl, fun _ r => r, h, q⟩
section
variable {X : Cx} {CX' : CXT} {k j : Nat} {ps : List Str} {sp : Sp} {E : L2.St → XK} {E0 : XK} {x : Str} {p pos : Pos} {e : Expr} {es : List Expr} {t : TA}
theorem pe_callSC (C : Callee X.prog X.w X.K X.mg X.base (L2.CX X.prog X.w) k x ps sp) (hr : Room j X.A) (hg : Gl X x) (hx : ∀ σ, PassesAt (L2.CX X.prog X.w) X σ (E σ)) (ha : PA X (e :: es) t) (hl : k ≤ j := by decide)
    (hdb : (x == ("__debug__" : Str)) = false := by decide) (he : starEach (e :: es) X.env = (false, eval e X.env) :: starEach es X.env := by rfl) (hpl : (backTo pos (starEach es X.env)).any (·.1) = false := by rfl) :
    PE X (.Call (.Name x p) (e :: es) [] pos) (tCallS sp E t) := by
  obtain ⟨f, fd, F, hm, hk, hb⟩ := C.ex
  exact pe_callS F (hr.mono hl) hg hm hk hb hx ha hdb he hpl
/-- what a callee lets out leaves this def too -/
theorem passX {E : XK} {E₁ : Value → Shared → Prop} (hs : X.stack = X.env :: X.outer) (hf : X.env.frame = some X.env.locals) (hex : X.ex = [])
    (hx : X.xe = fun e s' => wpAny (model X.prog X.w) X.A (leaving X.env e) (fun _ s'' => L2.CX X.prog X.w X.outer X.H_0 X.s_0 E e s'') E₁ s') : Passes (L2.CX X.prog X.w) X E :=
  fun pins σ H s e s' I c => passes_call (takes_of hs hf hex hx) (fun _ _ _ _ z => z) pins σ H s e s' I c
end
theorem callS {sp : Sp} {E : L2.St → XK} {a : TA} {σ : L2.St} {H : Hp} {Q : VK} (h : a σ H fun vs H1 => sp vs H1 Q (E σ)) : tCallS sp E a σ H Q := h
end WP
namespace WP
open PySem PySem.Spec PyProof.Rows L2
def rDivmodW : List V → Hp → VK → Prop := fun xs H Q => ∃ i j, xs = [.int i, .int j] ∧ CDivP i j ∧ ∀ p, H p = none → Q (.ref p) (upd H p (.tup [.int (i / j), .int (i % j)]))
theorem c_divmodW {X : Cx} : CallR X (.builtin "divmod") rDivmodW := call_divmodW
theorem Bt.p {i j : Int} {a : Nat} (h : Bt i a) (hj : 0 < j) (l : a ≤ 4000 := by omega) : CDivP i j := divp_ok hj (by have := intBits_le h; omega)
theorem divW {i j : Int} {H : Hp} {Q : VK} (c : CDivP i j) (q : ∀ p, H p = none → Q (.ref p) (upd H p (.tup [.int (i / j), .int (i % j)]))) : rDivmodW [.int i, .int j] H Q := ⟨i, j, rfl, c, q⟩
end WP
namespace WP
open PySem PySem.Spec PyProof.Rows L2
/-- a callee that raises, called where it does not -/
theorem pass0X {X : Cx} : Passes (L2.CX X.prog X.w) X (fun _ _ _ => False) := fun pins σ H s e s' I c => passes_call (W := fun _ _ _ _ => False) takes0 (fun _ _ _ _ z => z) pins σ H s e s' I c
end WP
namespace WP
open PySem PySem.Spec PyProof.Rows L2
/-- no star -/
def noStar : Expr → Bool
  | .Starred _ _ => false
  | _ => true
theorem starEach_no {e : Expr} {es : List Expr} {env : Env} (h : noStar e = true) : starEach (e :: es) env = (false, eval e env) :: starEach es env := by
  cases e with
  | Starred a b => cases h
  | _ => rfl
theorem pa_consN {X : Cx} {e : Expr} {es : List Expr} {te : TE} {t : TA} (ha : PE X e te) (hr : PA X es t) (hs : noStar e = true := by rfl) : PA X (e :: es) (tCons te t) := pa_cons ha hr (starEach_no hs)
end WP

namespace WP
open PySem PySem.Spec PyProof.Rows L2
open SX (S S_len S_cat)
section
variable {X : Cx}
theorem pe_strL {x : Str} {j pos} (l : List Nat) (h : x = S l) : PE X (.Constant (.str x) j pos) (tC (.str (S l))) := by subst h; exact pe_str
/-- text * number -/
def rMulS : R2 := fun x y H Q => ∃ (a : Str) (i : Int), x = .str a ∧ y = .int i ∧ MulOk a i ∧ Q (.str (Txt.mul a i)) H
theorem op_mul_str : OpR X (binaryOp .Mult) rMulS := by
  intro pins s σ H x y v u Q I rx ry h
  obtain ⟨a, i, rfl, rfl, hz, q⟩ := h
  obtain ⟨t, rfl⟩ := rx
  obtain ⟨t', rfl⟩ := ry
  exact SB.mul hz fun t' k => ⟨.str _, H, I.tok _, ⟨_, rfl⟩, q⟩
def rAddS : R2 := fun x y H Q => ∃ (a b : Str), x = .str a ∧ y = .str b ∧ a.length + b.length ≤ sizeLine ∧ Q (.str (a ++ b)) H
theorem op_addS : OpR X (binaryOp .Add) rAddS := op_add_str
def rZfill : V → List V → Hp → VK → Prop := fun x xs H Q => ∃ (a : Str) (i : Int), x = .str a ∧ xs = [.int i] ∧ PadOk i = true ∧ Q (.str (Txt.zfill a i)) H
theorem m_zfill : MtR X "str.zfill" rZfill := mt_zfill
def rIntS : List V → Hp → VK → Prop := fun xs H Q => ∃ (a : Str) (n : Int), xs = [.str a] ∧ PySem.intText? a = some n ∧ a.length ≤ 640 ∧ Q (.int n) H
theorem c_intS : CallR X (.type "int") rIntS := call_int_str
end
section
variable {a b l : List Nat} {i : Int} {H : Hp} {Q : VK}
theorem catS (q : Q (.str (S (a ++ b))) H) (h : a.length + b.length ≤ sizeLine := by size_fits) : rAddS (.str (S a)) (.str (S b)) H Q := ⟨_, _, rfl, rfl, by rw [S_len, S_len]; exact h, by rw [S_cat]; exact q⟩
theorem reps1 (c : Nat) : ∀ (k : Nat) (acc : Array Nat), ((List.replicate k #[c]).foldl (· ++ ·) acc) = (acc.toList ++ List.replicate k c).toArray
  | 0, acc => by simp
  | k + 1, acc => by
    rw [List.replicate_succ, List.foldl_cons, reps1 c k]
    simp [List.replicate_succ]
theorem mul_S (c : Nat) (i : Int) : Txt.mul (S [c]) i = S (List.replicate i.toNat c) := by
  unfold Txt.mul
  split
  · rename_i h
    rw [show i.toNat = 0 by omega]; rfl
  · rename_i h
    split
    · rename_i h2
      have : i = 1 := by
        rw [Bool.or_eq_true] at h2
        rcases h2 with h2 | h2
        · exact eq_of_beq h2
        · exact absurd h2 (by rw [S_len]; exact Bool.false_ne_true)
      subst this
      rfl
    · show (⟨(List.replicate i.toNat #[c]).foldl (· ++ ·) #[]⟩ : Str) = _
      rw [reps1]; simp [S]
theorem mulOk1 (c : Nat) {i : Int} (h : i ≤ 100000) (h2 : -100000 ≤ i) : MulOk (S [c]) i := by
  refine ⟨by rw [decide_eq_false (by omega), decide_eq_false (by omega)]; rfl, fun h1 _ => ?_, fun h1 _ => ?_⟩
  · rw [S_len]
    show ¬ (((1 : Nat) : Int) > _)
    have : (1 : Int) ≤ (2 ^ 63 - 1) / i := by
      rw [Int.le_ediv_iff_mul_le (by omega)]; omega
    omega
  · rw [S_len]
    unfold Builtin.Str.tooLong
    exact decide_eq_false (by rw [sizeLine_eq]; show ¬ (1 * i.toNat > _); omega)
theorem mulS {c : Nat} (h : i ≤ 100000) (h2 : -100000 ≤ i) (q : Q (.str (S (List.replicate i.toNat c))) H) : rMulS (.str (S [c])) (.int i) H Q :=
  ⟨_, _, rfl, rfl, mulOk1 c h h2, by rw [mul_S]; exact q⟩
/-- zfill of a text without a sign -/
theorem zfill_S (h : ∀ c, l.head? = some c → c ≠ 43 ∧ c ≠ 45) (hi : 0 ≤ i) : Txt.zfill (S l) i = S (List.replicate (i.toNat - l.length) 48 ++ l) := by
  unfold Txt.zfill
  rw [S_len]
  split
  · rename_i h1
    rw [show i.toNat - l.length = 0 by omega]; rfl
  · unfold PySem.zfilled
    have e : (S l).cps[0]? = l.head? := by simp [S, List.head?_eq_getElem?]
    rw [e]
    have fin : Builtin.Str.padded (S l) (i.toNat - l.length) 0 48 = S (List.replicate (i.toNat - l.length) 48 ++ l) := by
      unfold Builtin.Str.padded
      simp [S]
    split
    · rename_i hc; exact absurd rfl (h _ hc).1
    · rename_i hc; exact absurd rfl (h _ hc).2
    · exact fin
theorem zfillS (h : ∀ c, l.head? = some c → c ≠ 43 ∧ c ≠ 45) (hi : 0 ≤ i) (h2 : i ≤ 100000) (q : Q (.str (S (List.replicate (i.toNat - l.length) 48 ++ l))) H) : rZfill (.str (S l)) [.int i] H Q :=
  ⟨_, _, rfl, rfl, by unfold PadOk fitsSsize; rw [decide_eq_false (by omega), decide_eq_false (by omega)]; unfold Builtin.Str.tooLong; rw [decide_eq_false (by rw [sizeLine_eq]; omega)]; rfl, by rw [zfill_S h hi]; exact q⟩
theorem lenS' (h : l.length ≤ sizeLine) (q : Q (.int (l.length : Int)) H) {K : PySem.W.Frag} : rLen K [V.str (S l)] H Q := ⟨_, _, rfl, ⟨by rw [S_len]; exact h, rfl⟩, by rw [S_len]; exact q⟩
theorem strN {n : Nat} (h : n.log2 < 1920) (q : Q (.str (S (TL.numL n))) H) : rStrI [V.int (n : Int)] H Q := ⟨_, rfl, by rw [Int.natAbs_natCast]; exact h, by
  have e : Str.ofString (toString ((n : Nat) : Int)) = S (TL.numL n) := SX.num_S n
  rw [e]; exact q⟩
theorem intSd (h : l.all (fun c => decide (48 ≤ c) && decide (c ≤ 57)) = true) (hne : l ≠ []) (hl : l.length ≤ 640) (q : Q (.int ((NumText.digitsVal l : Nat) : Int)) H) : rIntS [V.str (S l)] H Q :=
  ⟨_, _, rfl, SX.int_S h hne (by omega), by rw [S_len]; exact hl, q⟩
theorem slS {lo hi : Option Int} (z : Str) (h : z.length ≤ sizeLine) (q : Q (.str (Txt.slice z lo hi)) H) : rSlS (.str z) lo hi H Q := ⟨z, rfl, h, by rw [C8.cutS_slice]; exact q⟩
theorem slTo (hi : 0 ≤ i) (h : l.length ≤ sizeLine) (q : Q (.str (S (l.take i.toNat))) H) : rSlS (.str (S l)) none (some i) H Q := slS _ (by rw [S_len]; exact h) (by rw [SX.slice_to hi]; exact q)
theorem slFrom (hi : 0 ≤ i) (h : l.length ≤ sizeLine) (q : Q (.str (S (l.drop i.toNat))) H) : rSlS (.str (S l)) (some i) none H Q := slS _ (by rw [S_len]; exact h) (by rw [SX.slice_from hi]; exact q)
/-- an index from the end -/
theorem idx_neg_hi {l1 : Option Int} {n : Nat} {i : Int} (h : i < 0) (h2 : 0 ≤ i + n) : Builtin.Str.strSliceIndices l1 (some i) 1 n = Builtin.Str.strSliceIndices l1 (some (i + n)) 1 n := by
  have h1 : ¬ (i + n < 0) := by omega
  simp only [Builtin.Str.strSliceIndices, h, h1, if_false, if_true]
theorem idx_neg_lo {l1 : Option Int} {n : Nat} {i : Int} (h : i < 0) (h2 : 0 ≤ i + n) : Builtin.Str.strSliceIndices (some i) l1 1 n = Builtin.Str.strSliceIndices (some (i + n)) l1 1 n := by
  have h1 : ¬ (i + n < 0) := by omega
  simp only [Builtin.Str.strSliceIndices, h, h1, if_false, if_true]
theorem slice_toN (h : i < 0) (h2 : 0 ≤ i + (l.length : Int)) : Txt.slice (S l) none (some i) = S (l.take (i + (l.length : Int)).toNat) := by
  rw [← SX.slice_to h2]
  unfold Txt.slice
  rw [S_len, idx_neg_hi h h2]
theorem slice_fromN (h : i < 0) (h2 : 0 ≤ i + (l.length : Int)) : Txt.slice (S l) (some i) none = S (l.drop (i + (l.length : Int)).toNat) := by
  rw [← SX.slice_from h2]
  unfold Txt.slice
  rw [S_len, idx_neg_lo h h2]
theorem slToN (hi : i < 0) (h2 : 0 ≤ i + (l.length : Int)) (h : l.length ≤ sizeLine) (q : Q (.str (S (l.take (i + (l.length : Int)).toNat))) H) : rSlS (.str (S l)) none (some i) H Q := slS _ (by rw [S_len]; exact h) (by rw [slice_toN hi h2]; exact q)
theorem slFromN (hi : i < 0) (h2 : 0 ≤ i + (l.length : Int)) (h : l.length ≤ sizeLine) (q : Q (.str (S (l.drop (i + (l.length : Int)).toNat))) H) : rSlS (.str (S l)) (some i) none H Q := slS _ (by rw [S_len]; exact h) (by rw [slice_fromN hi h2]; exact q)
theorem eqTS {a b : List Nat} (h : Q (.bl (decide (a = b))) H) : rEq (.str (S a)) (.str (S b)) H Q := ⟨rfl, by
  have e : decide ((S a : Str) = S b) = decide (a = b) := by
    by_cases h : a = b
    · subst h; rw [decide_eq_true rfl, decide_eq_true rfl]
    · rw [decide_eq_false h, decide_eq_false fun z => h (SX.S_inj z)]
  rw [dec_str, e]; exact h⟩
theorem neTS {a b : List Nat} (h : Q (.bl (!decide (a = b))) H) : rNe (.str (S a)) (.str (S b)) H Q := ⟨rfl, by
  have e : decide ((S a : Str) = S b) = decide (a = b) := by
    by_cases h : a = b
    · subst h; rw [decide_eq_true rfl, decide_eq_true rfl]
    · rw [decide_eq_false h, decide_eq_false fun z => h (SX.S_inj z)]
  rw [dec_str, e]; exact h⟩
/-- range with a step -/
theorem rng3 {ta : TA} {σ : L2.St} {R : It → Hp → Prop} (h : ta σ H fun vs H1 => ∃ (i j c : Int) (n : Nat), vs = [.int i, .int j, .int c] ∧ RgC i j c n ∧ R (Itc i c n) H1) : iRng3 ta σ H R := h
end
/-! ### the figures of a number -/
/-- k figures of n -/
def padL : Nat → Nat → List Nat
  | 0, _ => []
  | k + 1, n => padL k (n / 10) ++ [48 + n % 10]
theorem padL_len : ∀ k n, (padL k n).length = k
  | 0, _ => rfl
  | k + 1, n => by unfold padL; rw [List.length_append, padL_len]; rfl
theorem numL_app : ∀ (k q r : Nat), 0 < q → r < 10 ^ k → TL.numL (q * 10 ^ k + r) = TL.numL q ++ padL k r
  | 0, q, r, _, hr => by
    have : r = 0 := by simp at hr; exact hr
    subst this
    simp [padL]
  | k + 1, q, r, hq, hr => by
    have e10 : 10 ^ (k + 1) = 10 ^ k * 10 := Nat.pow_succ ..
    have hp : 0 < 10 ^ k := Nat.pow_pos (by decide)
    have b : 10 ≤ q * 10 ^ (k + 1) + r := by
      have : 1 * 10 ^ (k + 1) ≤ q * 10 ^ (k + 1) := Nat.mul_le_mul_right _ hq
      omega
    have d : (q * 10 ^ (k + 1) + r) / 10 = q * 10 ^ k + r / 10 := by
      rw [e10, ← Nat.mul_assoc]; omega
    have m : (q * 10 ^ (k + 1) + r) % 10 = r % 10 := by
      rw [e10, ← Nat.mul_assoc]; omega
    rw [TL.numL_step b, d, m, numL_app k q (r / 10) hq (by omega)]
    rw [show padL (k + 1) r = padL k (r / 10) ++ [48 + r % 10] from rfl, List.append_assoc]
theorem padL_zero : ∀ k, padL k 0 = List.replicate k 48
  | 0 => rfl
  | k + 1 => by unfold padL; rw [show 0 / 10 = 0 from rfl, padL_zero k, List.replicate_succ']
theorem padL_num : ∀ (k n : Nat), 0 < k → n < 10 ^ k → padL k n = List.replicate (k - (TL.numL n).length) 48 ++ TL.numL n
  | k + 1, n, _, h => by
    by_cases c : n < 10
    · rw [TL.numL_lt c]
      unfold padL
      rw [show n / 10 = 0 by omega, padL_zero, show n % 10 = n by omega]
      rfl
    · have hk : 0 < k := by
        rcases k with _ | k
        · simp at h; omega
        · omega
      have e10 : 10 ^ (k + 1) = 10 ^ k * 10 := Nat.pow_succ ..
      rw [TL.numL_step (by omega)]
      unfold padL
      rw [padL_num k (n / 10) hk (by omega), List.length_append, List.append_assoc]
      congr 2
      simp
theorem numL_head {n c : Nat} (h : (TL.numL n).head? = some c) : c ≠ 43 ∧ c ≠ 45 := by
  have m : c ∈ TL.numL n := List.mem_of_head? h
  have := TL.numL_digits n c m
  omega
theorem digits_rep (n : Nat) : NumText.digitsVal (49 :: List.replicate n 48) = 10 ^ n := by
  unfold NumText.digitsVal
  rw [List.foldl_cons]
  have : ∀ (n a : Nat), (List.replicate n 48).foldl (fun acc c => acc * 10 + (c - 48)) a = a * 10 ^ n := by
    intro n
    induction n with
    | zero => intro a; simp
    | succ n ih => intro a; rw [List.replicate_succ, List.foldl_cons, ih, Nat.pow_succ]; rw [Nat.sub_self, Nat.add_zero, Nat.mul_assoc, Nat.mul_comm 10]
  rw [this]; simp
end WP
namespace WP
open PySem PySem.Spec PyProof.Rows L2
section
variable {K : PySem.W.Frag} {σ : L2.St} {H : Hp} {Q : VK} {x v : V} {p : Addr} {xs : List V}
theorem bm {T : String} {r : V → List V → Hp → VK → Prop} {to : TE} {t : TA} (h : to σ H fun x H1 => tyV K T x H1 ∧ t σ H1 fun xs H2 => r x xs H2 Q) : tBM K T r to t σ H Q := h
theorem tyS {z : Str} {A : Prop} (q : A) : tyV K "str" (.str z) H ∧ A := ⟨rfl, q⟩
theorem gsub {to ti : TE} {t : TSet} {QS : L2.St → Hp → Prop} (h : to σ H fun o H1 => ti σ H1 fun i H2 => t o i v H2 fun H3 => QS σ H3) : gSub to ti t v σ H QS := h
theorem setL {k : Int} {j : Nat} {R : Hp → Prop} (hp : H p = some (.lst xs)) (hj : ixN xs.length k = some j) (q : R (upd H p (.lst (xs.set j v)))) : rSetL (.ref p) (.int k) v H R := ⟨p, xs, k, j, rfl, rfl, hp, hj, q⟩
theorem appL (hp : H p = some (.lst xs)) (hz : xs.length < sizeLine) (q : Q .non (upd H p (.lst (xs ++ [v])))) : rAppend (.ref p) [v] H Q := ⟨p, xs, v, rfl, rfl, hp, hz, q⟩
theorem tyL {A : Prop} (hp : SqL K H p xs) (q : A) : tyV K "list" (.ref p) H ∧ A := ⟨.inl ⟨rfl, xs, hp⟩, q⟩
theorem tyT (h : SqT K H p xs) : TyX K H (.ref p) (.type "tuple") := by
  rcases h with (h | ⟨o, h⟩) | h
  · exact .base (.tup h)
  · exact .fTuple h
  · obtain ⟨o, its, n, h1, h2, h3⟩ := h
    exact .kTuple h1 h2
/-- all objects but the one at d are kept -/
def Sx (d : Addr) (H H' : Hp) : Prop := ∀ a o, a ≠ d → H a = some o → H' a = some o
theorem Sx.refl {d : Addr} {H : Hp} : Sx d H H := fun _ _ _ e => e
theorem Sx.trans {d : Addr} {H H' H2 : Hp} (h : Sx d H H') (k : Sx d H' H2) : Sx d H H2 := fun a o n e => k a o n (h a o n e)
theorem Sx.of {d : Addr} {H H' : Hp} (h : Same H H') : Sx d H H' := fun a o _ e => h a o e
theorem Sx.upd {d : Addr} {H : Hp} {o : HO} : Sx d H (upd H d o) := fun a u n e => by rw [upd_ne n]; exact e
theorem sqtX {d : Addr} {H H' : Hp} {ys : List V} (e : Sx d H H') (hd : H d = some (.lst ys)) (h : SqT K H p xs) : SqT K H' p xs := by
  rcases h with (h | ⟨o, h⟩) | h
  · exact .inl (.inl (e _ _ (fun z => by rw [z, hd] at h; cases h) h))
  · exact .inl (.inr ⟨o, e _ _ (fun z => by rw [z, hd] at h; cases h) h⟩)
  · exact .inr h
end
end WP
namespace WP
theorem log2_lt {n k : Nat} (hk : 0 < k) (h : n < 2 ^ k) : n.log2 < k := by
  by_cases z : n = 0
  · subst z; exact hk
  · exact (Nat.log2_lt z).mpr h
end WP
namespace WP
open PySem PySem.Spec PyProof.Rows L2
theorem ifSS {c : Prop} [Decidable c] {a b : List Nat} {σ : L2.St} {H : Hp} {Q : VK} (q : Q (.str (SX.S (if c then a else b))) H) : if decide c = true then tC (.str (SX.S a)) σ H Q else tC (.str (SX.S b)) σ H Q := by
  by_cases h : c
  · rw [if_pos (decide_eq_true h)]; rw [if_pos h] at q; exact q
  · rw [if_neg (by rw [decide_eq_false h]; exact Bool.false_ne_true)]; rw [if_neg h] at q; exact q
end WP
namespace WP
open PySem PySem.Spec PyProof.Rows L2
section
variable {K : PySem.W.Frag} {H H' : Hp} {a d : Addr} {xs : List V}
theorem sqlX (e : Sx d H H') (n : a ≠ d) (h : SqL K H a xs) : SqL K H' a xs := by
  rcases h with (h | ⟨o, h⟩) | h
  · exact .inl (.inl (e _ _ n h))
  · exact .inl (.inr ⟨o, e _ _ n h⟩)
  · exact .inr h
end
end WP
namespace WP
open PySem PySem.Spec PyProof.Rows L2
/-- a text that may stand in data -/
def SOk (z : Str) : Prop := (PyData.str z).canLay0 = true
theorem SOk.sh {z : Str} (h : SOk z) : SeqAt.shaped (.str z) = true := Bool.and_eq_true_iff.mpr ⟨h, rfl⟩
theorem sok_S {l : List Nat} (h : ∀ c ∈ l, c < 1114112) : SOk (SX.S l) := by
  show (SX.S l).cps.all (· < 0x110000) = true
  rw [← Array.all_toList]
  exact List.all_eq_true.mpr fun c hc => decide_eq_true (h c hc)
end WP
namespace WP
open PySem PySem.Spec PyProof.Rows L2
theorem rg9 {j : Int} (h1 : 1 ≤ j) (h2 : j ≤ 1000) : RgC 0 j 9 ((j - 1) / 9 + 1).toNat := by
  have e : Builtin.Range.rangeSize 0 j 9 = (j - 1) / 9 + 1 := by
    unfold Builtin.Range.rangeSize
    rw [if_pos (by decide), if_pos (by omega), show j - 0 - 1 = j - 1 by omega]
  refine ⟨by decide, by decide, ?_, by rw [e]; omega⟩
  unfold Builtin.Range.small
  rw [e]
  simp only [Builtin.Range.rangeFitsLong, Bool.and_eq_true, Bool.or_eq_true, decide_eq_true_eq, beq_iff_eq]
  simp
  omega
end WP

namespace WJ
open PySem PySem.W PySem.Calls PyProof.Rows PySem.SC
section
variable {prog : Program} {w : World} {A : Around} {E : Value → Shared → Prop} {s : Shared}
/-- x.join(reversed(a list)): the walk backwards is collected, then glued -/
theorem join_rev {x : Str} {t : Tok} {ys : List Str} {it l : Addr} {its : Array Value} {Q : Value → Shared → Prop} (hh : A.handled = none)
    (hi : s.heap.IsRevIter it l ((its.size : Int) - 1)) (hl : s.heap.IsList l its) (ne : l ≠ it) (hn : its.size ≤ sizeLine)
    (hy : ∀ acc : Array Value, ItemsOf (fun i v => its[its.size - 1 - i]? = some v) acc its.size → StrsAre acc.toList ys) (fit : (ys.map (·.length)).sum + ys.length * x.length ≤ 16777216)
    (done : ∀ (h' : Heap) (t' : Tok) (k : Nat), (∀ b o, b ≠ it → s.heap.get? b = some o → h'.get? b = some o) → Q (.str (Txt.join x ys) t') { s with heap := h', toks := k }) :
    wpAny (model prog w) A (call (.builtin "str.join") [.str x t, .ref it]) Q E s := by
  have T : s.TypeIs (.ref it) "list_reverseiterator" := Heap.IsRevIter.typeIs hi
  refine wpAny_call (codeAny_call_builtin F.slot_str_join.plain F.entry_str_join ?_)
  refine F.slot_str_join.check _ _ _ _ _ _ _ _ (typeIs_str _ _ _) (F.args_str_join_2 _ _) ?_
  rw [join_tree_other]
  refine wpAny_bind (wpAny_typeOf T ?_)
  show wpAny _ A.in1 ((pyIter (.ref it)).tryCatch _ >>= fun j => collect j >>= fun zs => joinTail x zs) _ _ s
  refine wpAny_bind (wpAny_tryCatch (wpAny_pyIter_revIter hi ?_))
  refine wpAny_bind (RT.collect_rev hh hi hl ne hn fun h' k acc kept got => ?_)
  obtain ⟨ts, et, ey⟩ := strsAre_values (hy acc got)
  subst ey
  rw [et]
  have ok := joinOk_of fit
  unfold JoinOk at ok
  rw [Bool.not_eq_true'] at ok
  have G : Gives (joinTail x (strValues ts)) (joinMade x ts) := by
    rcases ts with _ | ⟨_, _ | ⟨_, _⟩⟩ <;> exact gives_joinTail x _ ok
  refine G prog w A (wants Q E) { s with heap := h', toks := k } (post_join ts ⟨joinFit_length ok, fun t' k' => ?_⟩)
  exact done h' t' k' kept
end
end WJ
namespace WP
open PySem PySem.Spec PyProof.Rows L2
/-- sep.join(reversed(xs)), xs a list of texts -/
def tJoinRev (K : PySem.W.Frag) (to te : TE) : TE := fun σ H Q => to σ H fun x H1 => (∃ a, x = .str a) ∧ te σ H1 fun v H2 => ∃ (a : Str) (q : Addr) (ys : List Str),
  x = .str a ∧ v = .ref q ∧ SqL K H2 q (ys.map V.str) ∧ ((ys.map (·.length)).sum + ys.length * a.length ≤ 16777216) ∧ Q (.str (Txt.join a ys.reverse)) H2
theorem pe_joinRev {X : Cx} {o e : Expr} {to te : TE} {apos pos p2 pos2 : Pos} (hc : X.calm = true) (ho : PE X o to) (hg : Gl X "reversed") (hm : X.mg "reversed" = none) (he : PE X e te)
    (hs1 : starEach [.Call (.Name "reversed" p2) [e] [] pos2] X.env = [(false, eval (.Call (.Name "reversed" p2) [e] [] pos2) X.env)] := by rfl)
    (hs : starEach [e] X.env = (false, eval e X.env) :: starEach [] X.env := by rfl)
    (hbase : attributeBase o "join" X.env (eval o X.env) = eval o X.env := by rfl) (hline : (apos.endLine == pos.line) = true := by rfl) :
    PE X (.Call (.Attribute o "join" apos) [.Call (.Name "reversed" p2) [e] [] pos2] [] pos) (tJoinRev X.K to te) := by
  refine ⟨fun pins s σ H Q I h => ?_⟩
  refine PySem.Call_method1 hbase hs1 hline (thn (ho.run pins s σ H _ I h) fun v s1 ⟨x, H1, I1, r1, q1⟩ => ?_)
  obtain ⟨⟨a, rfl⟩, q1⟩ := q1
  obtain ⟨t, rfl⟩ := _root_.id r1
  refine ⟨"str", _, F.plainAttrs_str, F.slot_str_join, F.type_str_join, typeIs_str _ _ _, (fun _ e => nomatch e), Calls.callWith_builtin rfl (Calls.evalArgs_plain (Calls.spliced_cons ?_))⟩
  refine Call_ (ld_blt I1 hg hm PyProof.Rows.boot_reversed (PyProof.Rows.callWith_type1 (args_cons (thn (he.run pins s1 σ H1 _ I1 q1) fun u s2 ⟨v2, H2, I2, r2, q2⟩ => args_nil ?_) hs) hs rfl))
  obtain ⟨a', q, ys, ea, ev, hq, hz, q2⟩ := q2
  cases ea
  subst ev
  obtain rfl : u = Value.ref q := r2
  obtain ⟨its, rv, pl, hsz⟩ := I2.list hq
  refine call_reversed_list pl.isList (Calls.spliced_nil ?_)
  have k0 : ∀ b o, s2.heap.get? b = some o → (s2.heap.push (revObj q ((its.toArray.size : Int) - 1))).get? b = some o := fun b o e => Heap.get?_push_of_some _ e
  have I3 : Inv X pins σ H2 { s2 with heap := s2.heap.push (revObj q ((its.toArray.size : Int) - 1)) } := I2.kept (t' := s2.toks) k0
  obtain ⟨f0, f1, f2, f3, f4, f5⟩ := I2.fpOk (H' := H2) (b := s2.heap.objs.size) (Nat.le_refl _) (I2.hok.fresh (Nat.le_refl _))
  have hl := pl.isList
  obtain ⟨ol, hol, _⟩ := _root_.id hl
  refine WJ.join_rev (s := { s2 with heap := s2.heap.push (revObj q ((its.toArray.size : Int) - 1)) }) (ys := ys.reverse) (I2.ok.hd hc) ⟨_, Heap.get?_push_size _ rfl, rfl, rfl⟩ (hl.push _) (Nat.ne_of_lt (Heap.lt_size hol))
    (by rw [List.size_toArray, ← rv.length]; exact hsz) (fun acc hacc => ?_) (by rw [List.map_reverse, List.sum_reverse, List.length_reverse]; exact hz) fun h' t' k hk => ?_
  · have z := RT.vals_rev rv hacc
    rw [← List.map_reverse] at z
    exact strs_of_vals z
  · exact ⟨.str _, H2, I3.turned (t' := k) (fun b o hb e => hk b o hb e) f0 f1 f3 f4 f5, ⟨t', rfl⟩, q2⟩
end WP
namespace WP
open PySem PySem.Spec PyProof.Rows L2
theorem jr {K : PySem.W.Frag} {to te : TE} {σ : L2.St} {H : Hp} {Q : VK} (h : to σ H fun x H1 => (∃ a, x = .str a) ∧ te σ H1 fun v H2 => ∃ (a : Str) (q : Addr) (ys : List Str),
  x = .str a ∧ v = .ref q ∧ SqL K H2 q (ys.map V.str) ∧ ((ys.map (·.length)).sum + ys.length * a.length ≤ 16777216) ∧ Q (.str (Txt.join a ys.reverse)) H2) : tJoinRev K to te σ H Q := h
theorem joinL_nil : ∀ l : List (List Nat), TL.joinL [] l = l.flatten
  | [] => rfl
  | [p] => by simp [TL.joinL]
  | p :: q :: r => by rw [TL.joinL, joinL_nil (q :: r)]; simp
theorem join_nilS (ys : List (List Nat)) : Txt.join (SX.S []) (ys.map SX.S) = SX.S ys.flatten := by rw [SX.join_S, joinL_nil]
end WP

namespace WP
open PySem PySem.Spec PyProof.Rows L2
open SX (S S_len S_cat)
/-! ### tuples and dicts of the module -/
structure KTp (K : PySem.W.Frag) (mg : MG) (nm : Str) (xs : List V) : Prop where
  m : mg nm = some (.ref (ca mg nm))
  s : ∀ H, SqT K H (ca mg nm) xs
theorem KTp.mk' {K : PySem.W.Frag} {mg : MG} {nm : Str} {C : Addr} {xs : List V} (h : mg nm = some (.ref C)) (x : ∀ H, SqT K H C xs) : KTp K mg nm xs := by
  have e := ca_of h
  exact ⟨by rw [e]; exact h, by rw [e]; exact x⟩
structure KDc (K : PySem.W.Frag) (w : World) (mg : MG) (nm : Str) (l : List (Str × V)) : Prop where
  m : mg nm = some (.ref (ca mg nm))
  s : ∀ p ∈ l, KDct K w (ca mg nm) p.1 p.2
theorem KDc.mk' {K : PySem.W.Frag} {w : World} {mg : MG} {nm : Str} {C : Addr} {l : List (Str × V)} (h : mg nm = some (.ref C)) (x : ∀ p ∈ l, KDct K w C p.1 p.2) : KDc K w mg nm l := by
  have e := ca_of h
  exact ⟨by rw [e]; exact h, by rw [e]; exact x⟩
theorem kdc_cons {K : PySem.W.Frag} {w : World} {C : Addr} {k : Str} {v : V} {l : List (Str × V)} (h : KDct K w C k v) (t : ∀ p ∈ l, KDct K w C p.1 p.2) : ∀ p ∈ (k, v) :: l, KDct K w C p.1 p.2 := fun p hp => by
  rcases List.mem_cons.mp hp with e | e
  · subst e; exact h
  · exact t p e
section
variable {X : Cx}
theorem pe_ktup {x : Str} {xs : List V} {pos : Pos} (hg : Gl X x) (h : KTp X.K X.mg x xs) (hd : (x == ("__debug__" : Str)) = false := by decide) : PE X (.Name x pos) (tC (.ref (ca X.mg x))) := pe_glob hg h.m rfl hd
def rUpper : V → List V → Hp → VK → Prop := fun x xs H Q => ∃ a, x = .str a ∧ xs = [] ∧ a.length ≤ 5592405 ∧ Q (.str (Txt.upper a)) H
theorem m_upper : MtR X "str.upper" rUpper := mt_upper
theorem pe_dgetD {o e f : Expr} {td ty tx : TE} {apos cpos : Pos} (hu : X.A.units + 1 < cLine) (ho : PE X o td) (he : PE X e ty) (hf : PE X f tx) (m : M2 X o "get" apos e f cpos) : PE X (.Call (.Attribute o "get" apos) [e, f] [] cpos) (tDGet2 td ty tx) :=
  pe_dget2 hu ho he hf m
end
section
variable {K : PySem.W.Frag} {w : World} {σ : L2.St} {H : Hp} {Q : VK} {l : List Nat} {i : Int} {c : Nat}
theorem ixS1 (a : atI l i = some c) (hz : l.length ≤ sizeLine) (q : Q (.str (S [c])) H) : rIxS (.str (S l)) (.int i) H Q := ⟨S l, i, c, rfl, rfl, by rw [S_len]; exact hz, a, q⟩
theorem wstr {te : TE} {R : It → Hp → Prop} (h : te σ H fun v H1 => ∃ x, v = .str x ∧ R (Its x) H1) : iStr te σ H R := h
theorem upS (h : l.all (· < 128) = true) (hl : l.length ≤ 1000) (q : Q (.str (S (l.map up1))) H) : rUpper (.str (S l)) [] H Q := ⟨_, rfl, rfl, by rw [S_len]; omega, by rw [SX.upper_S h]; exact q⟩
theorem inV_S {s : List Nat} : ∀ {ls : List (List Nat)}, inV (.str (S s)) (ls.map fun a => V.str (S a)) = decide (s ∈ ls)
  | [] => rfl
  | a :: ls => by
    show (eqV (.str (S a)) (.str (S s)) || inV (.str (S s)) (ls.map fun a => V.str (S a))) = _
    rw [inV_S]
    show ((S a == S s) || _) = _
    rw [SX.S_beq_eq]
    by_cases h : a = s
    · subst h; simp
    · rw [decide_eq_false h, Bool.false_or]
      congr 1
      exact propext ⟨fun z => List.mem_cons_of_mem _ z, fun z => by
        rcases List.mem_cons.mp z with z | z
        · exact absurd z.symm h
        · exact z⟩
theorem flat_S : ∀ (ls : List (List Nat)), (ls.map fun a => V.str (S a)).all flatV = true
  | [] => rfl
  | a :: ls => flat_S ls
/-- a text in a tuple, a list of texts -/
theorem inT (ls : List (List Nat)) {p : Addr} {xs : List V} {s : List Nat} (h : SqT K H p xs) (e : xs = ls.map fun a => V.str (S a)) (q : Q (.bl (decide (s ∈ ls))) H) : rIn K false (.str (S s)) (.ref p) H Q := by
  subst e
  exact ⟨p, _, rfl, .inr h, rfl, flat_S ls, by rw [inV_S]; exact q⟩
theorem inL (ls : List (List Nat)) {p : Addr} {xs : List V} {s : List Nat} (h : SqL K H p xs) (e : xs = ls.map fun a => V.str (S a)) (q : Q (.bl (decide (s ∈ ls))) H) : rIn K false (.str (S s)) (.ref p) H Q := by
  subst e
  exact ⟨p, _, rfl, .inl h, rfl, flat_S ls, by rw [inV_S]; exact q⟩
/-- a sign in a text -/
def rInSign : R2 := fun x y H Q => ∃ (c : Nat) (z : Str), x = .str ⟨#[c]⟩ ∧ y = .str z ∧ Q (.bl (decide (c ∈ z.cps.toList))) H
theorem op_inSign {X : Cx} : OpR X (compareOp .In) rInSign := op_in_sign
theorem inSign (q : Q (.bl (decide (c ∈ l))) H) : rInSign (.str (S [c])) (.str (S l)) H Q := ⟨c, S l, rfl, rfl, q⟩
theorem ixK {nm : Str} {mg : MG} {ls : List (Str × V)} {s : Str} {v : V} (h : KDc K w mg nm ls) (m : (s, v) ∈ ls) (q : Q v H) : rIxD K w (.ref (ca mg nm)) (.str s) H Q := ⟨_, _, _, rfl, rfl, h.s _ m, q⟩
/-- displays of one and two pairs -/
theorem disp1 {a : Str} {v : V} (q : ∀ p, H p = none → Q (.ref p) (upd (upd H p (.dK [])) p (.dK [(.inr a, v)]))) : tDisp [(tC (.str a), tC v)] σ H Q := fun p hp =>
  ⟨upd_same, [(.inr a, v)], rfl, show 1 ≤ 15 by decide, q p hp⟩
theorem disp2 {a b : Str} {v u : V} (ne : ¬ a = b) (q : ∀ p, H p = none → Q (.ref p) (upd (upd H p (.dK [])) p (.dK [(.inr a, v), (.inr b, u)]))) : tDisp [(tC (.str a), tC v), (tC (.str b), tC u)] σ H Q := fun p hp =>
  ⟨upd_same, [(.inr a, v), (.inr b, u)], rfl, show 2 ≤ 15 by decide, by
    have e : mergeK [] [((Sum.inr a : Key), v), ((Sum.inr b : Key), u)] = [((Sum.inr a : Key), v), ((Sum.inr b : Key), u)] := by
      show putK (putK ([] : List (Key × V)) (Sum.inr a) v) (Sum.inr b) u = _
      have e1 : putK ([] : List (Key × V)) (Sum.inr a) v = [((Sum.inr a : Key), v)] := rfl
      rw [e1]
      unfold putK
      rw [if_neg (by simp [ne])]
      rfl
    rw [e]; exact q p hp⟩
theorem same_disp {p : Addr} {o u : HO} (hp : H p = none) : Same H (upd (upd H p o) p u) := fun b x e => by
  rw [upd_ne (ne_of_none e hp), upd_ne (ne_of_none e hp)]; exact e
end
end WP
namespace WP
open PySem PySem.Spec PyProof.Rows L2
theorem bm0 {K : PySem.W.Frag} {σ : L2.St} {H : Hp} {Q : VK} {T : String} {r : V → List V → Hp → VK → Prop} {to : TE} (h : to σ H fun x H1 => tyV K T x H1 ∧ r x [] H1 Q) : tBM0 K T r to σ H Q := h
/-- a for over the signs of a text -/
theorem for_txt {l : List Nat} {g : TG} {tb : TS} {D : Ends} {σ : L2.St} {H : Hp} (Pv : Nat → L2.St → Hp → Prop) (h0 : Pv 0 σ H)
    (hs : ∀ i c σ H, l[i]? = some c → Pv i σ H → g (.str (SX.S [c])) σ H fun σ2 H2 => tb { D with nx := Pv (i + 1), ct := Pv (i + 1), bk := D.nx } σ2 H2) (hd : ∀ σ H, Pv l.length σ H → D.nx σ H) :
    ∃ W : Nat → Nat → L2.St → Hp → Prop, (∃ m, W 0 m σ H) ∧ ∀ i m σ H, W i m σ H →
      ((Its (SX.S l)).stop i H ∧ D.nx σ H) ∨ ((Its (SX.S l)).go i H ∧ ∃ N : L2.St → Hp → Prop, (∀ σ' H', N σ' H' → ∃ m', m' < m ∧ W (i + 1) m' σ' H') ∧ ∀ x H', (Its (SX.S l)).yld i H x H' → g x σ H' fun σ2 H2 => tb { D with nx := N, ct := N, bk := D.nx } σ2 H2) := by
  have e : (SX.S l).cps.size = l.length := by simp [SX.S]
  refine for_it walk_str Pv h0 (fun _ _ _ _ _ => True.intro) (fun i x σ H H' hi p y => ?_) fun σ H p => hd σ H (by rw [← e]; exact p)
  obtain ⟨rfl, c, hc, rfl⟩ := y
  refine hs i c σ H' ?_ p
  simpa [SX.S] using hc
end WP
namespace WP
open PySem PySem.Spec PyProof.Rows L2
theorem pe_kdict {X : Cx} {x : Str} {xs : List (Str × V)} {pos : Pos} (hg : Gl X x) (h : KDc X.K X.w X.mg x xs) (hd : (x == ("__debug__" : Str)) = false := by decide) : PE X (.Name x pos) (tC (.ref (ca X.mg x))) := pe_glob hg h.m rfl hd
end WP
namespace WP
open PySem PySem.Spec PyProof.Rows L2
theorem lc {wi : TI} {g : TG} {tt : TT} {te : TE} {vs : List Nat} {σ : L2.St} {H : Hp} {Q : VK} (h : wi σ H fun J H1 => ∀ D, H1 D = none → ∃ W : Nat → Nat → Hp → Prop, (∃ m, W 0 m (upd H1 D (.lst []))) ∧ ∀ i m H, W i m H →
    (J.stop i H ∧ Q (.ref D) H) ∨ (J.go i H ∧ ∃ Nx : Hp → Prop, (∀ H', Nx H' → ∃ m', m' < m ∧ W (i + 1) m' H') ∧ ∀ x H', J.yld i H x H' → g x (wipe σ vs) H' fun σ2 H2 => wipe σ2 vs = wipe σ vs ∧ tt σ2 H2 fun b H3 =>
      if b = true then te σ2 H3 fun y H4 => ∃ acc, H4 D = some (.lst acc) ∧ acc.length < sizeLine ∧ Nx (upd H4 D (.lst (acc ++ [y]))) else Nx H3)) : tLc wi g tt te vs σ H Q := h
theorem lc_txt {l : List Nat} {g : TG} {tt : TT} {te : TE} {vs : List Nat} {σ : L2.St} {H1 : Hp} {D : Addr} {Qd : Hp → Prop} (Pv : Nat → Hp → Prop) (h0 : Pv 0 (upd H1 D (.lst [])))
    (hs : ∀ i c H, l[i]? = some c → Pv i H → g (.str (SX.S [c])) (wipe σ vs) H fun σ2 H2 => wipe σ2 vs = wipe σ vs ∧ tt σ2 H2 fun b H3 =>
      if b = true then te σ2 H3 fun y H4 => ∃ acc, H4 D = some (.lst acc) ∧ acc.length < sizeLine ∧ Pv (i + 1) (upd H4 D (.lst (acc ++ [y]))) else Pv (i + 1) H3) (hd : ∀ H, Pv l.length H → Qd H) :
    ∃ W : Nat → Nat → Hp → Prop, (∃ m, W 0 m (upd H1 D (.lst []))) ∧ ∀ i m H, W i m H →
      ((Its (SX.S l)).stop i H ∧ Qd H) ∨ ((Its (SX.S l)).go i H ∧ ∃ Nx : Hp → Prop, (∀ H', Nx H' → ∃ m', m' < m ∧ W (i + 1) m' H') ∧ ∀ x H', (Its (SX.S l)).yld i H x H' → g x (wipe σ vs) H' fun σ2 H2 => wipe σ2 vs = wipe σ vs ∧ tt σ2 H2 fun b H3 =>
        if b = true then te σ2 H3 fun y H4 => ∃ acc, H4 D = some (.lst acc) ∧ acc.length < sizeLine ∧ Nx (upd H4 D (.lst (acc ++ [y]))) else Nx H3) := by
  have e : (SX.S l).cps.size = l.length := by simp [SX.S]
  refine lc_it walk_str Pv h0 (fun _ _ _ _ => True.intro) (fun i x H H' hi p y => ?_) fun H p => hd H (by rw [← e]; exact p)
  obtain ⟨rfl, c, hc, rfl⟩ := y
  refine hs i c H' ?_ p
  simpa [SX.S] using hc
theorem at_S {ls : List (List Nat)} {i : Int} (h0 : 0 ≤ i) (h1 : i < (ls.length : Int)) : ∃ a ∈ ls, atI (ls.map fun a => V.str (SX.S a)) i = some (.str (SX.S a)) := by
  obtain ⟨j, rfl⟩ : ∃ j : Nat, i = (j : Int) := ⟨i.toNat, by omega⟩
  have hj : j < ls.length := by omega
  exact ⟨ls[j], List.getElem_mem hj, atI_nat (by rw [List.getElem?_map, List.getElem?_eq_getElem hj]; rfl)⟩
end WP
namespace WP
open PySem PySem.Spec PyProof.Rows L2
theorem dget2 {td ty tx : TE} {σ : L2.St} {H : Hp} {Q : VK} (h : td σ H fun x H1 => ∃ a, x = .ref a ∧ IsD H1 a ∧ ty σ H1 fun y H2 => tx σ H2 fun z H3 => ∃ o, DGet H3 a y o ∧ Q (o.getD z) H3) : tDGet2 td ty tx σ H Q := h
theorem dget {td ty : TE} {σ : L2.St} {H : Hp} {Q : VK} (h : td σ H fun x H1 => ty σ H1 fun y H2 => ∃ a v, x = .ref a ∧ DGet H2 a y (some v) ∧ Q v H2) : tDGet td ty σ H Q := h
theorem at_I {ls : List Int} {i : Int} (h0 : 0 ≤ i) (h1 : i < (ls.length : Int)) : ∃ a, atI (ls.map V.int) i = some (.int a) := ⟨_, at_ints h0 h1⟩
theorem valV1 {a c : List Nat} {v : V} : valV [((Sum.inr (SX.S a) : Key), v)] (Sum.inr (SX.S c)) = if a = c then some v else none := by
  by_cases h : a = c
  · subst h; rw [if_pos rfl]; exact valV_pos rfl
  · rw [if_neg h]; exact (valV_neg fun e => h (SX.S_inj (Sum.inr.inj e))).trans valV_nil
theorem valV2 {a b c : List Nat} {v u : V} : valV [((Sum.inr (SX.S a) : Key), v), ((Sum.inr (SX.S b) : Key), u)] (Sum.inr (SX.S c)) = if a = c then some v else if b = c then some u else none := by
  by_cases h : a = c
  · subst h; rw [if_pos rfl]; exact valV_pos rfl
  · rw [if_neg h]; exact (valV_neg fun e => h (SX.S_inj (Sum.inr.inj e))).trans valV1
end WP
namespace WP
open PySem PySem.Spec PyProof.Rows L2
theorem andOr {σ : L2.St} {H : Hp} {Q : VK} {ta tb tc : TE} {x y z : Bool} (ha : ∀ Q : VK, Q (.bl x) H → ta σ H Q) (hb : ∀ Q : VK, Q (.bl y) H → tb σ H Q) (hc : ∀ Q : VK, Q (.bl z) H → tc σ H Q)
    (q : Q (.bl (x && (y || z))) H) : tAndV ta (tOrV tb tc) σ H Q := by
  refine WP.andV (ha _ ⟨x, rfl, ?_⟩)
  cases x with
  | false => exact q
  | true =>
    refine WP.brT rfl (WP.orV (hb _ ⟨y, rfl, ?_⟩))
    cases y with
    | true => exact q
    | false => exact WP.brF rfl (hc _ q)
end WP
namespace WP
open PySem PySem.Spec PyProof.Rows L2
def rNotInSign : R2 := fun x y H Q => ∃ (c : Nat) (z : Str), x = .str ⟨#[c]⟩ ∧ y = .str z ∧ Q (.bl (!decide (c ∈ z.cps.toList))) H
theorem op_notInSign {X : Cx} : OpR X (compareOp .NotIn) rNotInSign := op_notIn_sign
theorem notInSign {c : Nat} {l : List Nat} {H : Hp} {Q : VK} (q : Q (.bl (!decide (c ∈ l))) H) : rNotInSign (.str (SX.S [c])) (.str (SX.S l)) H Q := ⟨c, SX.S l, rfl, rfl, q⟩
end WP
namespace WP
open PySem PySem.Spec PyProof.Rows L2
theorem chain {r r' : R2} {ta tb tc : TE} {σ : L2.St} {H : Hp} {Q : VK} (h : ta σ H fun x H1 => tb σ H1 fun y H2 => r x y H2 fun z H3 => ∃ k, z = .bl k ∧ (if k = true then tc σ H3 fun w' H4 => r' y w' H4 Q else Q (.bl false) H3)) : tChain r r' ta tb tc σ H Q := h
theorem notInL {K : PySem.W.Frag} {H : Hp} {Q : VK} (ls : List (List Nat)) {p : Addr} {xs : List V} {s : List Nat} (h : SqL K H p xs) (e : xs = ls.map fun a => V.str (SX.S a)) (q : Q (.bl (!decide (s ∈ ls))) H) : rIn K true (.str (SX.S s)) (.ref p) H Q := by
  subst e
  exact ⟨p, _, rfl, .inl h, rfl, flat_S ls, by rw [inV_S]; exact q⟩
end WP
namespace WP
open PySem PySem.Spec PyProof.Rows L2
theorem yes {σ : L2.St} {H : Hp} {t : Hp → Prop} {u : Hp → Prop} (h : t H) : tYes σ H (fun b H3 => if b = true then t H3 else u H3) := by
  show (if true = true then t H else u H)
  rw [if_pos rfl]; exact h
end WP
namespace WP
open PySem PySem.Spec PyProof.Rows L2
/-- text[i:j], both from the front -/
theorem slice_both {l : List Nat} {i j : Int} (h0 : 0 ≤ i) (h1 : i ≤ j) : Txt.slice (SX.S l) (some i) (some j) = SX.S ((l.drop i.toNat).take (j - i).toNat) := by
  have hl : ((SX.S l).length : Int) = (l.length : Int) := by rw [SX.S_len]
  by_cases hj : j ≤ (l.length : Int)
  · exact beq_iff_eq.mp (PyProof.Rows.slice_closesL (x := SX.S l) h0 h1 (by omega))
  · have e2 : Txt.slice (SX.S l) (some i) (some j) = Txt.slice (SX.S l) (some i) (some (l.length : Int)) := by
      unfold Txt.slice
      rw [SX.S_len, SX.idx_hi (by omega)]
    rw [e2]
    by_cases hi : i ≤ (l.length : Int)
    · have e := beq_iff_eq.mp (PyProof.Rows.slice_closesL (x := SX.S l) (j := (l.length : Int)) h0 hi (by omega))
      refine e.trans ?_
      show SX.S ((l.drop i.toNat).take ((l.length : Int) - i).toNat) = _
      rw [List.take_of_length_le (by rw [List.length_drop]; omega), List.take_of_length_le (by rw [List.length_drop]; omega)]
    · have e3 : Txt.slice (SX.S l) (some i) (some (l.length : Int)) = SX.S [] := by
        have hb := PyProof.Rows.slice_beyond (x := SX.S l) (i := i) (by omega)
        have hf := SX.slice_from (a := l) h0
        have e4 : Txt.slice (SX.S l) (some i) (some (l.length : Int)) = Txt.slice (SX.S l) (some i) none := by
          unfold Txt.slice
          rw [SX.S_len]
          have a1 : ¬ ((l.length : Int) < 0) := by omega
          have a2 : (1 : Int) > 0 := by decide
          simp only [Builtin.Str.strSliceIndices, a1, a2, if_false, if_true, Int.min_self, Int.max_eq_right (Int.natCast_nonneg l.length)]
        rw [e4, hf, List.drop_eq_nil_of_le (by omega)]
      rw [e3, List.drop_eq_nil_of_le (by omega), List.take_nil]
theorem slBoth {l : List Nat} {i j : Int} {H : Hp} {Q : VK} (h0 : 0 ≤ i) (h1 : i ≤ j) (h : l.length ≤ sizeLine) (q : Q (.str (SX.S ((l.drop i.toNat).take (j - i).toNat))) H) : rSlS (.str (SX.S l)) (some i) (some j) H Q := slS _ (by rw [SX.S_len]; exact h) (by rw [slice_both h0 h1]; exact q)
end WP
namespace WP
open PySem PySem.Spec PyProof.Rows L2
theorem m_lstripC {X : Cx} : MtR X "str.lstrip" (fun x xs H Q => ∃ a b, x = .str a ∧ xs = [.str b] ∧ a.length ≤ sizeLine ∧ Q (.str (Txt.lstripChars a b)) H) := mt_lstripChars
end WP
namespace WP
open PySem PySem.Spec PyProof.Rows L2
/-- in a comprehension's block: the fragment and the module named -/
theorem pe_ktupK {X : Cx} {K : PySem.W.Frag} {mg : MG} {x : Str} {xs : List V} {pos : Pos} (hg : Gl X x) (h : KTp K mg x xs) (hK : X.K = K) (hm : X.mg = mg) (hd : (x == ("__debug__" : Str)) = false := by decide) : PE X (.Name x pos) (tC (.ref (ca mg x))) := by
  subst hK hm
  exact pe_ktup hg h hd
theorem op_inK {X : Cx} {K : PySem.W.Frag} (h : X.K = K) : OpR X (compareOp .In) (rIn K false) := by subst h; exact op_in_seq
theorem op_notInK {X : Cx} {K : PySem.W.Frag} (h : X.K = K) : OpR X (compareOp .NotIn) (rIn K true) := by subst h; exact op_notIn_seq
end WP
namespace WP
open PySem PySem.Spec PyProof.Rows L2
theorem notInT {K : PySem.W.Frag} {H : Hp} {Q : VK} (ls : List (List Nat)) {p : Addr} {xs : List V} {s : List Nat} (h : SqT K H p xs) (e : xs = ls.map fun a => V.str (SX.S a)) (q : Q (.bl (!decide (s ∈ ls))) H) : rIn K true (.str (SX.S s)) (.ref p) H Q := by
  subst e
  exact ⟨p, _, rfl, .inr h, rfl, flat_S ls, by rw [inV_S]; exact q⟩
end WP

namespace WP
open PySem PySem.Spec PyProof.Rows L2 GxR
section
variable {X : Cx} {pins : List (Addr × Obj)} {σ : L2.St} {H : Hp} {s : Shared}
/-- the generator expression's scope in the def's scope sc -/
structure GenSc (sc scope : Scope) (x : Str) : Prop where
  kind : scope.kind = .function
  co : scope.isCoroutine = false
  cell : ∀ y ∈ scope.names, y.2 ≠ .cell
  dot : scope.names.lookup (".0" : Str) = some NameKind.local
  loc : scope.names.lookup x = some .local
  free : ∀ y ∈ scope.names, y.2 = .free → sc.names.lookup y.1 = some .cell ∨ sc.names.lookup y.1 = some .free
def gscB (sc scope : Scope) (x : Str) : Bool :=
  decide (scope.kind = .function) && !scope.isCoroutine && scope.names.all (fun y => !decide (y.2 = .cell)) && decide (scope.names.lookup (".0" : Str) = some NameKind.local) && decide (scope.names.lookup x = some .local) &&
    scope.names.all (fun y => !decide (y.2 = .free) || decide (sc.names.lookup y.1 = some .cell ∨ sc.names.lookup y.1 = some .free))
theorem gsc_by {sc scope : Scope} {x : Str} (h : gscB sc scope x = true) : GenSc sc scope x := by
  unfold gscB at h
  simp only [Bool.and_eq_true, Bool.not_eq_true', decide_eq_true_eq, List.all_eq_true, Bool.or_eq_true, decide_eq_false_iff_not] at h
  obtain ⟨⟨⟨⟨⟨h1, h2⟩, h3⟩, h4⟩, h5⟩, h6⟩ := h
  exact ⟨h1, h2, h3, h4, h5, fun y hy e => (h6 y hy).elim (fun z => absurd e z) id⟩
/-- what the walked thing xv gives in the state s1: n items, the i-th one as Pf tells -/
def ItOk (X : Cx) (P : Addr) (s1 : Shared) (xv : Value) (n : Nat) (Pf : Nat → Value → Prop) : Prop :=
  ∃ fpx : List Addr, (∀ b ∈ fpx, b < s1.heap.objs.size ∧ b ≠ P) ∧ ∀ (Q : Value → Shared → Prop),
    (∀ (o : Obj) (St : Nat → Heap → Prop), (∀ A' : Around, A'.handled = none → Walks X.prog X.w A' s1.heap.objs.size (s1.heap.objs.size :: fpx) [s1.heap.objs.size] n Pf St) → St 0 (s1.heap.push o) →
      Q (.ref s1.heap.objs.size) { s1 with heap := s1.heap.push o }) → wpAny (model X.prog X.w) X.A (pyIter xv) Q X.xe s1
theorem itOk_str {P : Addr} {s1 : Shared} {a : Str} {t : Tok} : ItOk X P s1 (.str a t) a.cps.size (SignAt a) :=
  ⟨[], (fun b hb => by cases hb), fun Q h => wpAny_pyIter_str fun o St W hst => h o St W hst⟩
theorem itOk_list {P : Addr} {s1 : Shared} {q : Addr} {its : Array Value} (hl : s1.heap.IsList q its) (hP : q ≠ P) : ItOk X P s1 (.ref q) its.size (fun i v => its[i]? = some v) := by
  obtain ⟨ol, hol, _⟩ := _root_.id hl
  have hlt := Heap.lt_size hol
  refine ⟨[q], fun b hb => ?_, fun Q h => wpAny_pyIter_list hl (h _ _ (fun A' hA => Walks.list hA _ q (Nat.ne_of_lt hlt) its) ⟨⟨_, Heap.get?_push_size _ rfl, rfl, rfl⟩, hl.push _⟩)⟩
  rcases List.mem_cons.mp hb with z | z
  · rw [z]; exact ⟨hlt, hP⟩
  · cases z
/-- the element in the generator's own frame -/
def EltG (X : Cx) (P : Addr) (scope : Scope) (x : Str) (elt : Expr) (s1 : Shared) (Pf : Nat → Value → Prop) (pb : Nat → Bool) : Prop :=
  ∀ (cenv : Env) (A' : Around) (E' : Value → Shared → Prop) (i : Nat) (v : Value) (s₂ : Shared) (m₂ : Str → Option Value), cenv.scope = scope → cenv.globals = X.env.globals → cenv.cells = cloFrom X.env.cells scope.names [] → A'.handled = none → Pf i v →
    s₂.heap.Ns cenv.locals m₂ → m₂ x = some v → (∀ b u, b ≠ P → s1.heap.get? b = some u → s₂.heap.get? b = some u) →
    wpAny (model X.prog X.w) A' (eval elt cenv) (fun y s₃ => y = .bool (pb i) ∧ Keeps s₂ s₃) E' s₂
def ReadyN (X : Cx) (pins : List (Addr × Obj)) (σ : L2.St) (H1 : Hp) (P : Addr) (n : Nat) (pb : Nat → Bool) (g : Addr) (s5 : Shared) : Prop :=
  ∃ (fp wr : List Addr) (G : Array GenState → Array GenState → Prop) (F : Nat → Value → Prop) (St : Nat → Shared → Prop),
    WalksS X.prog X.w X.A.in1 g fp wr G n F St ∧ St 0 s5 ∧ TruthOf X.prog X.w X.A.in1 F pb ∧ ∀ s', Moved wr G s5 s' → ∃ H2, Tabbed P H1 H2 ∧ Inv X pins σ H2 s'
theorem gen_go {c P : Addr} {elt iter : Expr} {x : Str} {px gpos : Pos} {scope : Scope} {te : TE} {k : Nat} {Q' : Value → Shared → Prop} {R : V → Hp → Prop}
    (hr : Room k X.A) (TB : TabB X.base X.mg c P) (hcode : X.env.code = .ref c) (S : GenSc X.env.scope scope x) (hi : PE X iter te)
    (hs : ∀ v, genFold iter X.env v = pure v) (I : Inv X pins σ H s) (h : te σ H fun v H1 => TabG H1 P ∧ R v H1)
    (hw : ∀ v xv H1 s1, TabG H1 P → R v H1 → RelV v xv → Inv X pins σ H1 s1 → ∃ n Pf pb, ItOk X P s1 xv n Pf ∧ EltG X P scope x elt s1 Pf pb ∧ ∀ g s5, ReadyN X pins σ H1 P n pb g s5 → Q' (.ref g) s5) :
    wpAny (model X.prog X.w) X.A (eval (.GeneratorExp elt [⟨.Name x px, iter, [], 0⟩] scope gpos) X.env) Q' X.xe s := by
  refine wpAny_GeneratorExp_walksQ hr.hd S.co (closure_ok fun y hy e => I.ok.has y.1 (S.free y hy e)) S.cell S.dot S.loc S.kind (by have := hr.dp; omega) ?_ hs
  refine thn (hi.run pins s σ H _ I h) fun xv s1 ⟨v, H1, I1, r1, ⟨ps, hP, ht⟩, q1⟩ => ?_
  obtain ⟨n, Pf, pb, ⟨fpx, hfpx, hIt⟩, hel, hQ⟩ := hw v xv H1 s1 ⟨ps, hP, ht⟩ q1 r1 I1
  refine hIt _ fun o St W hst => ?_
  have hPs : s1.heap.get? P = some { cls := .none, data := .fields ps } := I1.hok P _ hP
  have hPlt : P < s1.heap.objs.size := Heap.lt_size hPs
  have hP2 : (s1.heap.push o).get? P = some { cls := .none, data := .fields ps } := Heap.get?_push_of_some _ hPs
  have cd : PySem.W.CodeHd (s1.heap.push o) c P := TB.code.keeps fun b u e => Heap.get?_push_of_some _ (I1.bk b u e)
  have lim2 : (s1.heap.push o).NoLimit := I1.nolimit.push o
  have cont : ∀ (code : Value) (h3 : Heap) (tk : Nat) (ps' : Array Value), Heap.ExtBut P (s1.heap.push o) h3 → (s1.heap.push o).objs.size ≤ h3.objs.size → h3.get? P = some { cls := .none, data := .fields ps' } → (∃ more, ps' = ps ++ more) → TriplesOk ps'.toList →
      wpAny (model X.prog X.w) X.A (builtinsFor X.env.globals X.env.builtins) (fun bi s₄ =>
        ∃ Ia fp wr n₀ Pf St₀ pz F, Value.ref s1.heap.objs.size = .ref Ia ∧ (∀ A' : Around, A'.handled = none → Walks X.prog X.w A' Ia fp wr n₀ Pf St₀) ∧ St₀ 0 s₄.heap ∧ (∀ b ∈ fp, b < s₄.heap.objs.size) ∧ s₄.heap.NoLimit ∧ cStatics ∉ wr ∧
          (∀ href : Heap, (∀ b o, s₄.heap.get? b = some o → href.get? b = some o) →
            QuietGen X.prog X.w (genEnv scope (cloFrom X.env.cells scope.names []) s₄.heap.objs.size code bi X.env) x [] elt (List.range s₄.heap.objs.size) wr Pf pz F href) ∧
          (∀ a h₅ tk gs, gs.bare = true → s₄.heap.objs.size < a → h₅.objs.size = a + 1 → (∀ b o, s₄.heap.get? b = some o → h₅.get? b = some o) →
            WalksS X.prog X.w X.A.in4 a (a :: s₄.heap.objs.size :: List.range s₄.heap.objs.size) (s₄.heap.objs.size :: wr) (GenOnlyQ s₄.gens.size) (passing pz n₀ 0).length
              (fun j y => ∃ i, (passing pz n₀ 0)[j]? = some i ∧ F i y) (GenAt X.prog X.w X.A.in4 a s₄.gens.size s₄.heap.objs.size (List.range s₄.heap.objs.size) wr pz n₀ F) →
            GenAt X.prog X.w X.A.in4 a s₄.gens.size s₄.heap.objs.size (List.range s₄.heap.objs.size) wr pz n₀ F 0 { s₄ with gens := s₄.gens.push gs, toks := tk, heap := h₅ } →
            Q' (.ref a) { s₄ with gens := s₄.gens.push gs, toks := tk, heap := h₅ })) X.xe { s1 with heap := h3, toks := tk } := by
    intro code h3 tk ps' hx hsz hP3 hmore ht3
    obtain ⟨bm, ob, e1, e2, e3, e4, e5, e6, e7, e8⟩ := TB.bm
    have hcP : cStatics ≠ P := fun e => by
      obtain ⟨_, hns, _⟩ := I1.nolimit
      obtain ⟨o', es, ep, ho, hd, _⟩ := hns
      rw [e, hPs] at ho
      cases ho
      cases hd
    have hcl : cStatics < s1.heap.objs.size := let ⟨_, hns, _⟩ := I1.nolimit; hns.lt
    have sz2 : (s1.heap.push o).objs.size = s1.heap.objs.size + 1 := Heap.size_push ..
    have le3 : s1.heap.objs.size ≤ h3.objs.size := Nat.le_trans (Nat.le_succ _) (by have e := sz2; rw [e] at hsz; exact hsz)
    have keep3 : ∀ b u, b ≠ P → s1.heap.get? b = some u → h3.get? b = some u := fun b u hb e => hx b u hb (Heap.get?_push_of_some _ e)
    refine wpAny_builtinsFor (m := X.mg) (by rw [I1.ok.glob]; exact ((I1.mod.glob.keeps I1.bk).push o).extBut hx TB.gP) e1 e2 (keep3 _ _ e4 (I1.bk _ _ e5)) e6 e7 e8 ?_
    refine ⟨s1.heap.objs.size, s1.heap.objs.size :: fpx, [s1.heap.objs.size], n, Pf, St, (fun _ => true), (fun i y => y = .bool (pb i)), rfl, W, ?_, ?_, lim2.extBut hx hcP, ?_, ?_, ?_⟩
    · refine (W X.A hr.hd).frame _ _ _ hst fun b hb u e => hx b u (fun z => ?_) e
      rcases List.mem_cons.mp hb with z2 | z2
      · exact Nat.ne_of_lt hPlt (z.symm.trans z2)
      · exact (hfpx b z2).2 z
    · intro b hb
      rcases List.mem_cons.mp hb with z | z
      · rw [z]
        show s1.heap.objs.size < h3.objs.size
        omega
      · exact Nat.lt_of_lt_of_le (hfpx b z).1 le3
    · intro z
      rcases List.mem_cons.mp z with z | z
      · exact Nat.ne_of_lt hcl z
      · cases z
    · intro href hhref
      refine ⟨fun A' E' i v s₂ m₂ hA hPv hn hm hk => ?_, fun A' E' i v s₂ m₂ hA hPv hp hn hm hk => ?_⟩
      · simp only [List.forIn_nil]
        exact wpAny_pure ⟨rfl, keeps_refl _⟩
      · refine hel _ A' E' i v s₂ m₂ rfl rfl rfl hA hPv hn hm fun b u hb e => ?_
        have hlt := Heap.lt_size e
        refine hk b (List.mem_range.mpr ?_) (fun z => ?_) u (hhref b u (keep3 b u hb e))
        · exact Nat.lt_of_lt_of_le hlt le3
        · rcases List.mem_cons.mp z with z | z
          · exact Nat.ne_of_lt hlt z
          · cases z
    · intro g h5 tk5 gs hgb hag hsz5 hk5 W5 hat
      simp only [GxR.passing_true, List.length_range] at W5
      refine hQ g _ ⟨_, _, _, _, _, W5.in4_1, hat, ?_, fun s' hm => ?_⟩
      · intro j y sj Qj Ej hy hQj
        obtain ⟨i, hij, rfl⟩ := hy
        obtain ⟨hj, ej⟩ := List.getElem?_eq_some_iff.mp hij
        rw [List.getElem_range] at ej
        subst ej
        exact wpAny_truthy_bool hQj
      · obtain ⟨more, em⟩ := hmore
        have nwr : ∀ b u, s1.heap.get? b = some u → b ∉ h3.objs.size :: [s1.heap.objs.size] := fun b u e hb => by
          have hl := Heap.lt_size e
          rcases List.mem_cons.mp hb with z | z
          · rw [z] at hl
            have h9 : (h3.objs.size : Nat) < s1.heap.objs.size := hl
            omega
          · rcases List.mem_cons.mp z with z | z
            · rw [z] at hl
              exact Nat.lt_irrefl _ hl
            · cases z
        have J := inv_tab (more := more) (h' := s'.heap) (g' := s'.gens) (d' := s'.drawn) (t' := s'.toks) I1 hP (fun b u hb e => hm.heap b u (nwr b u e) (hk5 b u (keep3 b u hb e)))
          (by rw [← em]; exact hm.heap P _ (nwr P _ hPs) (hk5 P _ hP3)) (AllBare.movedS (I1.bare.push hgb) hm)
        rw [sh_eta s1 s' hm.os] at J
        refine ⟨upd H1 P (.tbl (ps ++ more)), ⟨⟨ps ++ more, upd_same, by rw [← em]; exact ht3⟩, fun b hb => upd_ne hb⟩, J⟩
  refine ⟨lim2, ?_⟩
  cases hf : codeAmong gpos ps.toList with
  | none =>
    refine wpAny_genexprCodeX hcode (cd.code hP2 ht) (cd.tab hP2) hf fun c' h' tk hx hge hlt hco' _ htab' _ => ?_
    obtain ⟨o1, vs, f1, tf, fl, tg, inF, tx, tt, op, _, _, _, _, _, _, _, _, _, htr, _⟩ := hco'
    exact cont _ h' tk _ hx (Nat.le_trans hge (Nat.le_of_lt hlt)) htab'.2 ⟨_, rfl⟩ htr
  | some cv =>
    refine wpAny_genexprCode_hit hcode (cd.code hP2 ht) hf ?_
    exact cont cv (s1.heap.push o) s1.toks ps (Heap.ExtBut.refl _ _) (Nat.le_refl _) hP2 ⟨#[], by simp⟩ ht
/-- cells of the def, seen from the generator -/
theorem clo_look {cells : List (Str × Addr)} {names : List (Str × NameKind)} {y : Str} {c : Addr} (hf : (y, NameKind.free) ∈ names) (hc : cells.lookup y = some c) : (cloFrom cells names []).lookup y = some c := by
  have h := cloFrom_has (cells := cells) (acc := []) hf
  obtain ⟨c', hc'⟩ := L2.mem_lookup h
  rw [hc']
  rcases cloFrom_mem (PySem.mem_of_lookup hc') with z | ⟨_, z⟩
  · cases z
  · rw [z, hc]; rfl
def trI (pb : Int → Bool) (l : List Int) (j : Nat) : Bool := match l[j]? with
  | some b => pb b
  | none => false
theorem trI_some {pb : Int → Bool} {l : List Int} {j : Nat} {b : Int} (h : l[j]? = some b) : trI pb l j = pb b := by
  unfold trI
  rw [h]
theorem all_trI (l : List Int) (pb : Int → Bool) : (List.range l.length).all (trI pb l) = l.all pb := by
  rw [Bool.eq_iff_iff, List.all_eq_true, List.all_eq_true]
  constructor
  · intro h b hb
    obtain ⟨j, hj, e⟩ := List.getElem_of_mem hb
    have q := h j (List.mem_range.mpr hj)
    rw [trI_some (List.getElem?_eq_getElem hj), e] at q
    exact q
  · intro h j hj
    have hj' := List.mem_range.mp hj
    rw [trI_some (List.getElem?_eq_getElem hj')]
    exact h _ (List.getElem_mem hj')
/-- x in y, y a captured text -/
theorem elt_in {P : Addr} {scope : Scope} {x y : Str} {p1 p2 p3 : Pos} {H1 : Hp} {s1 : Shared} {a z : Str} {i : Nat} (I1 : Inv X pins σ H1 s1) (hP : ∃ ps : Array Value, H1 P = some (.tbl ps))
    (hN : X.N[i]? = some y) (hv : σ[i]? = some (some (.str z))) (hk : X.env.scope.names.lookup y = some .cell) (hfr : (y, NameKind.free) ∈ scope.names) (hl : scope.names.lookup x = some .local) (hy : scope.names.lookup y = some .free) (hkd : scope.kind = .function)
    (hd : (x == ("__debug__" : Str)) = false := by decide) (hd2 : (y == ("__debug__" : Str)) = false := by decide) (hcd : (y == ("__classdict__" : Str)) = false := by decide) (hm : behindInMarks .In (.Name y p2) = false := by with_unfolding_all rfl) :
    EltG X P scope x (.Compare (.Name x p1) [.In] [.Name y p2] p3) s1 (SignAt a) (trF (fun c => decide (c ∈ z.cps.toList)) a.cps.toList) := by
  intro cenv A' E' j v s₂ m₂ e1 e2 e3 hA hPf hn hmx hkp
  obtain ⟨c, t, hc, rfl⟩ := hPf
  obtain ⟨m, hns, hloc⟩ := I1.loc
  obtain ⟨u, ru, lk⟩ := hloc i y _ hN hv (.inr (.inl hk))
  obtain ⟨t', rfl⟩ := _root_.id ru
  have hkk : X.env.kindOf y = some .cell := hk
  rcases lk with ⟨hk', _⟩ | ⟨_, cl, hcl, ⟨oc, hoc, hcd2⟩⟩
  · rw [hkk] at hk'; cases hk'
  have hcP : cl ≠ P := fun e => by
    obtain ⟨ps, hps⟩ := hP
    have q := I1.hok P _ hps
    have q' : s1.heap.get? P = some { cls := .none, data := .fields ps } := q
    rw [e, q'] at hoc
    cases hoc
    cases hcd2
  have ec : cenv.cells.lookup y = some cl := by rw [e3]; exact clo_look hfr hcl
  have hcell : s₂.heap.IsCell cl (some (.str z t')) := ⟨oc, hkp cl oc hcP hoc, hcd2⟩
  refine wpAny_Compare1 ?_ hm
  refine wpAny_Name (wpAny_loadName_local (by rw [e1]; exact hkd) (show cenv.scope.names.lookup x = some .local by rw [e1]; exact hl) hn hmx ?_) hd
  refine wpAny_Name (wpAny_loadName_free (by rw [e1]; exact hkd) (show cenv.scope.names.lookup y = some .free by rw [e1]; exact hy) ec hcell ?_ hcd) hd2
  refine PyProof.Rows.in_str ⟨?_, keeps_refl _⟩
  rw [trF_some (by rw [Array.getElem?_toList]; exact hc)]
  exact congrArg Value.bool (PySem.StrLaws.found_one z c)
/-- lo <= x <= hi and x != no, the three names of the module -/
theorem elt_rng {P : Addr} {scope : Scope} {x lo hi no : Str} {p1 p2 p3 p4 p5 p6 p7 p8 : Pos} {H1 : Hp} {s1 : Shared} {its : Array Value} {ns : List Int} {l h n : Int} {t1 t2 t3 : Tok} (I1 : Inv X pins σ H1 s1) (hP : ∃ ps : Array Value, H1 P = some (.tbl ps))
    (g1 : X.mg lo = some (.int l t1)) (g2 : X.mg hi = some (.int h t2)) (g3 : X.mg no = some (.int n t3)) (hv : Vals (ns.map V.int) its.toList)
    (hl : scope.names.lookup x = some .local) (k1 : scope.names.lookup lo = some .globalImplicit) (k2 : scope.names.lookup hi = some .globalImplicit) (k3 : scope.names.lookup no = some .globalImplicit) (hkd : scope.kind = .function)
    (d0 : (x == ("__debug__" : Str)) = false := by decide) (d1 : (lo == ("__debug__" : Str)) = false := by decide) (d2 : (hi == ("__debug__" : Str)) = false := by decide) (d3 : (no == ("__debug__" : Str)) = false := by decide) :
    EltG X P scope x (.BoolOp .And [.Compare (.Name lo p1) [.LtE, .LtE] [.Name x p2, .Name hi p3] p4, .Compare (.Name x p5) [.NotEq] [.Name no p6] p7] p8) s1 (fun i v => its[i]? = some v)
      (trI (fun c => decide (l ≤ c ∧ c ≤ h ∧ c ≠ n)) ns) := by
  intro cenv A' E' j v s₂ m₂ e1 e2 e3 hA hPf hn hmx hkp
  have hj : ∃ (c : Int) (tc : Tok), ns[j]? = some c ∧ v = .int c tc := by
    have hlen := hv.length
    obtain ⟨hjl, _⟩ := Array.getElem?_eq_some_iff.mp hPf
    have hj2 : j < ns.length := by simp only [List.length_map, Array.length_toList] at hlen; exact Nat.lt_of_lt_of_eq hjl hlen.symm
    obtain ⟨u, hu, ru⟩ := hv.get (i := j) (x := .int ns[j]) (by rw [List.getElem?_map, List.getElem?_eq_getElem hj2]; rfl)
    rw [Array.getElem?_toList, hPf] at hu
    cases hu
    obtain ⟨tc, rfl⟩ := ru
    exact ⟨_, tc, List.getElem?_eq_getElem hj2, rfl⟩
  obtain ⟨c, tc, hc, rfl⟩ := hj
  have kd : cenv.scope.kind = .function := by rw [e1]; exact hkd
  have gns : s₂.heap.Ns cenv.globals X.mg := by
    rw [e2, I1.ok.glob]
    obtain ⟨o, es, ep, ho, hd, r⟩ := I1.mod.glob.keeps I1.bk
    refine ⟨o, es, ep, hkp _ _ (fun e => ?_) ho, hd, r⟩
    obtain ⟨ps, hps⟩ := hP
    have q' : s1.heap.get? P = some { cls := .none, data := .fields ps } := I1.hok P _ hps
    rw [e, q'] at ho
    cases ho
    cases hd
  have ldx : ∀ {Q : Value → Shared → Prop} {pp : Pos}, Q (.int c tc) s₂ → wpAny (model X.prog X.w) A' (eval (.Name x pp) cenv) Q E' s₂ := fun q =>
    wpAny_Name (wpAny_loadName_local kd (show cenv.scope.names.lookup x = some .local by rw [e1]; exact hl) hn hmx q) d0
  have ldg : ∀ {y : Str} {val : Value} {Q : Value → Shared → Prop} {pp : Pos}, X.mg y = some val → scope.names.lookup y = some .globalImplicit → (y == ("__debug__" : Str)) = false → Q val s₂ → wpAny (model X.prog X.w) A' (eval (.Name y pp) cenv) Q E' s₂ := fun g k d q =>
    Calls.Name_function_global kd (show cenv.scope.names.lookup _ = some .globalImplicit by rw [e1]; exact k) (Calls.loadGlobal_global gns g q) d
  rw [trI_some hc]
  refine wpAny_And2 ?_
  refine Compare_chain (ldg g1 k1 d1 (chain_link (ldx (le_int ?_))))
  refine wpAny_truthy_bool ?_
  by_cases h1 : l ≤ c
  · rw [decide_eq_true h1]
    refine ite_tt (chain_last (ldg g2 k2 d2 (le_int ?_)))
    refine wpAny_truthy_bool ?_
    by_cases h2 : c ≤ h
    · rw [decide_eq_true h2]
      refine ite_tt (wpAny_Compare1 (ldx (ldg g3 k3 d3 (ne_int ?_))))
      refine ⟨?_, keeps_refl _⟩
      by_cases h3 : c = n
      · simp [h3]
      · simp [h1, h2, h3]
    · rw [decide_eq_false h2]
      exact ite_ff ⟨by simp [h2], keeps_refl _⟩
  · rw [decide_eq_false h1]
    refine ite_ff ?_
    refine wpAny_truthy_bool (ite_ff ⟨by simp [h1], keeps_refl _⟩)
/-- all(.. for x in e): the walked thing of the kind R, the answer b -/
theorem all_go {c P : Addr} {elt iter : Expr} {x : Str} {px p pos gpos : Pos} {scope : Scope} {te : TE} {Wf : V → Hp → L2.St → VK → Prop} {k : Nat}
    (hr : Room k X.A) (hg : Gl X "all") (hm : X.mg "all" = none) (hb : bootBuiltins "all" = some (.builtin "all")) (TB : TabB X.base X.mg c P) (hcode : X.env.code = .ref c) (S : GenSc X.env.scope scope x) (hi : PE X iter te)
    (hs : ∀ v, genFold iter X.env v = pure v)
    (he : starEach [.GeneratorExp elt [⟨.Name x px, iter, [], 0⟩] scope gpos] X.env = (false, eval (.GeneratorExp elt [⟨.Name x px, iter, [], 0⟩] scope gpos) X.env) :: starEach [] X.env)
    (hw : ∀ pins (σ : L2.St) (v : V) (xv : Value) (H1 : Hp) (s1 : Shared) (Q : VK), TabG H1 P → Wf v H1 σ Q → RelV v xv → Inv X pins σ H1 s1 → ∃ n Pf pb, ItOk X P s1 xv n Pf ∧ EltG X P scope x elt s1 Pf pb ∧ ∀ H2, Tabbed P H1 H2 → Q (.bl ((List.range n).all pb)) H2) :
    PE X (.Call (.Name "all" p) [.GeneratorExp elt [⟨.Name x px, iter, [], 0⟩] scope gpos] [] pos) (fun σ H Q => te σ H fun v H1 => TabG H1 P ∧ Wf v H1 σ Q) := by
  refine ⟨fun pins s σ H Q I h => ?_⟩
  refine wpAny_Call_Name_kw (ld_blt I hg hm hb ?_)
  refine PyProof.Rows.callWith_builtin1 ?_ he (by rfl)
  rw [he]
  show wpAny _ _ (spliced ((false, eval (.GeneratorExp elt [⟨.Name x px, iter, [], 0⟩] scope gpos) X.env) :: backTo pos (starEach [] X.env))) _ _ s
  refine Calls.spliced_cons (gen_go (R := fun v H1 => Wf v H1 σ Q) hr TB hcode S hi hs I h fun v xv H1 s1 hT q1 r1 I1 => ?_)
  obtain ⟨n, Pf, pb, h1, h2, h3⟩ := hw pins σ v xv H1 s1 Q hT q1 r1 I1
  refine ⟨n, Pf, pb, h1, h2, fun g s5 hG => ?_⟩
  obtain ⟨fp, wr, G, F, St, W, hst, htr, hI⟩ := hG
  refine Calls.spliced_nil ?_
  refine call_all_walkS (W.self 0 _ _ _ hst ⟨g, fp, wr, G, _, F, St, _, rfl, W, hst, htr, fun s' hmv => ?_⟩)
  obtain ⟨H2, hT, J⟩ := hI s' hmv
  exact ⟨.bl _, H2, J, rfl, h3 H2 hT⟩
/-- all(x in y for x in e), e and y texts; y the def's i-th name -/
def tAllC (P : Addr) (i : Nat) (te : TE) : TE := fun σ H Q => te σ H fun v H1 => TabG H1 P ∧ ∃ a z : Str, v = .str a ∧ σ[i]? = some (some (.str z)) ∧ ∀ H2, Tabbed P H1 H2 → Q (.bl (a.cps.toList.all fun c => decide (c ∈ z.cps.toList))) H2
theorem pe_allC {c P : Addr} {iter : Expr} {x y : Str} {px p pos gpos p1 p2 p3 : Pos} {scope : Scope} {te : TE} {k i : Nat}
    (hr : Room k X.A) (hg : Gl X "all") (hm : X.mg "all" = none) (hb : bootBuiltins "all" = some (.builtin "all")) (TB : TabB X.base X.mg c P) (hcode : X.env.code = .ref c) (S : GenSc X.env.scope scope x) (hi : PE X iter te)
    (hN : X.N[i]? = some y) (hk : X.env.scope.names.lookup y = some .cell) (hfr : (y, NameKind.free) ∈ scope.names) (hy : scope.names.lookup y = some .free)
    (hs : ∀ v, genFold iter X.env v = pure v)
    (he : starEach [.GeneratorExp (.Compare (.Name x p1) [.In] [.Name y p2] p3) [⟨.Name x px, iter, [], 0⟩] scope gpos] X.env = (false, eval (.GeneratorExp (.Compare (.Name x p1) [.In] [.Name y p2] p3) [⟨.Name x px, iter, [], 0⟩] scope gpos) X.env) :: starEach [] X.env := by rfl)
    (hd : (x == ("__debug__" : Str)) = false := by decide) (hd2 : (y == ("__debug__" : Str)) = false := by decide) (hcd : (y == ("__classdict__" : Str)) = false := by decide) (hmk : behindInMarks .In (Expr.Name y p2) = false := by with_unfolding_all rfl) :
    PE X (.Call (.Name "all" p) [.GeneratorExp (.Compare (.Name x p1) [.In] [.Name y p2] p3) [⟨.Name x px, iter, [], 0⟩] scope gpos] [] pos) (tAllC P i te) := by
  refine all_go (Wf := fun v H1 σ Q => ∃ a z : Str, v = .str a ∧ σ[i]? = some (some (.str z)) ∧ ∀ H2, Tabbed P H1 H2 → Q (.bl (a.cps.toList.all fun c => decide (c ∈ z.cps.toList))) H2) hr hg hm hb TB hcode S hi hs he fun pins σ v xv H1 s1 Q hT h r1 I1 => ?_
  obtain ⟨a, z, rfl, hv, hQ⟩ := h
  obtain ⟨t, rfl⟩ := _root_.id r1
  obtain ⟨ps, hP, _⟩ := hT
  refine ⟨_, _, _, itOk_str, elt_in I1 ⟨ps, hP⟩ hN hv hk hfr S.loc hy S.kind hd hd2 hcd hmk, fun H2 h2 => ?_⟩
  rw [all_signs]
  exact hQ H2 h2
/-- all(lo <= x <= hi and x != no for x in e), e a list of ints -/
def tAllR (K : PySem.W.Frag) (P : Addr) (l h n : Int) (te : TE) : TE := fun σ H Q => te σ H fun v H1 => TabG H1 P ∧ ∃ (q : Addr) (ns : List Int), v = .ref q ∧ SqL K H1 q (ns.map V.int) ∧ ∀ H2, Tabbed P H1 H2 → Q (.bl (ns.all fun c => decide (l ≤ c ∧ c ≤ h ∧ c ≠ n))) H2
theorem pe_allR {c P : Addr} {iter : Expr} {x lo hi no : Str} {px p pos gpos p1 p2 p3 p4 p5 p6 p7 p8 : Pos} {scope : Scope} {te : TE} {k : Nat} {l h n : Int}
    (hr : Room k X.A) (hg : Gl X "all") (hm : X.mg "all" = none) (hb : bootBuiltins "all" = some (.builtin "all")) (TB : TabB X.base X.mg c P) (hcode : X.env.code = .ref c) (S : GenSc X.env.scope scope x) (hi' : PE X iter te)
    (g1 : ∃ u, X.mg lo = some u ∧ RelV (.int l) u) (g2 : ∃ u, X.mg hi = some u ∧ RelV (.int h) u) (g3 : ∃ u, X.mg no = some u ∧ RelV (.int n) u)
    (k1 : scope.names.lookup lo = some .globalImplicit) (k2 : scope.names.lookup hi = some .globalImplicit) (k3 : scope.names.lookup no = some .globalImplicit)
    (hs : ∀ v, genFold iter X.env v = pure v)
    (he : starEach [.GeneratorExp (.BoolOp .And [.Compare (.Name lo p1) [.LtE, .LtE] [.Name x p2, .Name hi p3] p4, .Compare (.Name x p5) [.NotEq] [.Name no p6] p7] p8) [⟨.Name x px, iter, [], 0⟩] scope gpos] X.env = (false, eval (.GeneratorExp (.BoolOp .And [.Compare (.Name lo p1) [.LtE, .LtE] [.Name x p2, .Name hi p3] p4, .Compare (.Name x p5) [.NotEq] [.Name no p6] p7] p8) [⟨.Name x px, iter, [], 0⟩] scope gpos) X.env) :: starEach [] X.env := by rfl)
    (d0 : (x == ("__debug__" : Str)) = false := by decide) (d1 : (lo == ("__debug__" : Str)) = false := by decide) (d2 : (hi == ("__debug__" : Str)) = false := by decide) (d3 : (no == ("__debug__" : Str)) = false := by decide) :
    PE X (.Call (.Name "all" p) [.GeneratorExp (.BoolOp .And [.Compare (.Name lo p1) [.LtE, .LtE] [.Name x p2, .Name hi p3] p4, .Compare (.Name x p5) [.NotEq] [.Name no p6] p7] p8) [⟨.Name x px, iter, [], 0⟩] scope gpos] [] pos) (tAllR X.K P l h n te) := by
  obtain ⟨u1, g1, t1, rfl⟩ := g1
  obtain ⟨u2, g2, t2, rfl⟩ := g2
  obtain ⟨u3, g3, t3, rfl⟩ := g3
  refine all_go (Wf := fun v H1 σ Q => ∃ (q : Addr) (ns : List Int), v = .ref q ∧ SqL X.K H1 q (ns.map V.int) ∧ ∀ H2, Tabbed P H1 H2 → Q (.bl (ns.all fun c => decide (l ≤ c ∧ c ≤ h ∧ c ≠ n))) H2) hr hg hm hb TB hcode S hi' hs he fun pins σ v xv H1 s1 Q hT hq r1 I1 => ?_
  obtain ⟨q, ns, rfl, hq, hQ⟩ := hq
  obtain rfl : xv = Value.ref q := r1
  obtain ⟨its, rv, pl, hsz⟩ := I1.list hq
  obtain ⟨ps, hP, _⟩ := hT
  have hqP : q ≠ P := fun e => by
    have q' : s1.heap.get? P = some { cls := .none, data := .fields ps } := I1.hok P _ hP
    obtain ⟨o, nn, e1, _, _, e2⟩ := pl
    rw [e, q'] at e1
    cases e1
    cases e2
  refine ⟨_, _, _, itOk_list pl.isList hqP, elt_rng I1 ⟨ps, hP⟩ g1 g2 g3 (by simpa using rv) S.loc k1 k2 k3 S.kind d0 d1 d2 d3, fun H2 h2 => ?_⟩
  have e := rv.length
  rw [List.length_map] at e
  rw [List.size_toArray, ← e, all_trI]
  exact hQ H2 h2
end
end WP

namespace WP
open PySem PySem.Spec PyProof.Rows L2 GxR
/-- all but the tables stay, tables stay tables -/
def NT (u : HO) : Prop := ∀ ps, u ≠ .tbl ps
structure Sm (H H' : Hp) : Prop where
  k : ∀ b u, H b = some u → NT u → H' b = some u
  t : ∀ P, TabG H P → TabG H' P
theorem Sm.refl (H : Hp) : Sm H H := ⟨fun _ _ e _ => e, fun _ h => h⟩
theorem Sm.trans {H H' H2 : Hp} (a : Sm H H') (b : Sm H' H2) : Sm H H2 := ⟨fun x u e n => b.k x u (a.k x u e n) n, fun P h => b.t P (a.t P h)⟩
theorem Sm.of {H H' : Hp} (e : Same H H') : Sm H H' := ⟨fun b u h _ => e b u h, fun P ⟨ps, h, t⟩ => ⟨ps, e P _ h, t⟩⟩
theorem Sm.tab {H H' : Hp} {P : Addr} (g : TabG H P) (h : Tabbed P H H') : Sm H H' := by
  obtain ⟨ps, hP, ht⟩ := g
  refine ⟨fun b u e n => ?_, fun Q hq => ?_⟩
  · by_cases hb : b = P
    · rw [hb, hP] at e; exact absurd (Option.some.inj e).symm (n ps)
    · rw [h.2 b hb]; exact e
  · by_cases hb : Q = P
    · rw [hb]; exact h.1
    · obtain ⟨qs, h1, h2⟩ := hq
      exact ⟨qs, by rw [h.2 Q hb]; exact h1, h2⟩
theorem nt_tup {xs : List V} : NT (.tup xs) := fun _ z => by cases z
theorem nt_lst {xs : List V} : NT (.lst xs) := fun _ z => by cases z
theorem nt_frz {o : Obj} {x : HO} : NT (.frz o x) := fun _ z => by cases z
theorem Sm.tup {K : PySem.W.Frag} {H H' : Hp} {a : Addr} {xs : List V} (e : Sm H H') (h : SqT K H a xs) : SqT K H' a xs := by
  rcases h with (h | ⟨o, h⟩) | h
  · exact .inl (.inl (e.k _ _ h nt_tup))
  · exact .inl (.inr ⟨o, e.k _ _ h nt_frz⟩)
  · exact .inr h
theorem Sm.lst {K : PySem.W.Frag} {H H' : Hp} {a : Addr} {xs : List V} (e : Sm H H') (h : SqL K H a xs) : SqL K H' a xs := by
  rcases h with (h | ⟨o, h⟩) | h
  · exact .inl (.inl (e.k _ _ h nt_lst))
  · exact .inl (.inr ⟨o, e.k _ _ h nt_frz⟩)
  · exact .inr h
/-- what comes back, tables grown -/
def MetV (v : V) (H : Hp) (Q : VK) : Prop := ∀ H', Sm H H' → Q v H'
def MetT (xs : List V) (H : Hp) (Q : VK) : Prop := ∀ p H', Sm H H' → H' p = some (.tup xs) → Q (.ref p) H'
theorem MetT.new {xs : List V} {H H' : Hp} {Q : VK} (k : MetT xs H Q) (e : Sm H H') : ∀ p, H' p = none → Q (.ref p) (upd H' p (.tup xs)) := fun p hp =>
  k p _ (e.trans (.of (same_new hp))) upd_same
/-- the def x's code object and its table -/
def cod (K : PySem.W.Frag) (x : Str) : Addr := match PySem.W.tabIn K x with
  | some (c, _) => c
  | none => 0
def tbl (K : PySem.W.Frag) (x : Str) : Addr := match PySem.W.tabIn K x with
  | some (_, P) => P
  | none => 0
theorem cod_of {K : PySem.W.Frag} {x : Str} {c P : Addr} (h : PySem.W.tabIn K x = some (c, P)) : cod K x = c := by unfold cod; rw [h]
theorem tbl_of {K : PySem.W.Frag} {x : Str} {c P : Addr} (h : PySem.W.tabIn K x = some (c, P)) : tbl K x = P := by unfold tbl; rw [h]
/-- a def whose code object is c -/
structure FunC (K : PySem.W.Frag) (x qual : Str) (st : Stmt) (f : Addr) (fd : FuncData) (c : Addr) : Prop where
  ex : ∃ (oc : Value) (od : Option Addr) (kV doc pm : Value) (an : Option Addr) (ct : Value) (osl : Array (Option Value)),
    fd = PySem.W.fnOf x qual (defArgs st) (defBody st) (defScope st) .none kV doc pm an (.ref c) ct ∧ K.lookup f = some ⟨oc, od, .func fd, osl⟩ ∧ PySem.W.codeIn K (.ref c) qual = true
section
variable {P : Program} {w : World} {K : PySem.W.Frag} {mg : Str → Option Value} {base : Heap}
theorem FunC.ok {x qual : Str} {st : Stmt} {f : Addr} {fd : FuncData} {c : Addr} {N ps : List Str} {k : Nat} {sp : Sp} (F : FunC K x qual st f fd c) (S : FnScope N ps (defScope st)) (len : ∀ vs H Q E, sp vs H Q E → vs.length = ps.length)
    (hbody : ∀ (A : Around) (outer : List Env) (s : Shared) (H : Hp) (vs : List V) (Q : VK) (E : XK), Room k (A.deeper (envOfC qual (defScope st) s.heap.objs.size f (.ref c))) → sp vs H Q E →
      ∃ t, PSs (cxOf CX0 P w K mg base N qual (defScope st) f (.ref c) A outer s H E).nox (defBody st) t ∧ t { nx := fun _ H' => Q .non H', rt := Q } (start N vs) H) : FnOk P w K mg base CX0 (k + 1) f fd ps sp := by
  obtain ⟨oc, od, kV, doc, pm, an, ct, osl, rfl, lk, hcd⟩ := F.ex
  refine fn_of lk hcd S len fun A outer s H vs Q E hr hsp => ?_
  obtain ⟨t, h, q⟩ := hbody A outer s H vs Q E hr hsp
  exact ⟨t, h.nox, q⟩
theorem funC_mk {x qual : Str} {st : Stmt} {f : Addr} {c P' : Addr} {y : Str} {oc : Value} {od an : Option Addr} {osl : Array (Option Value)} {kV doc pm ct : Value} (l : K.lookup f = some ⟨oc, od, .func (PySem.W.fnOf x qual (defArgs st) (defBody st) (defScope st) .none kV doc pm an (.ref c) ct), osl⟩)
    (hc : PySem.W.codeIn K (.ref c) qual = true) (ht : PySem.W.tabIn K y = some (c, P')) : FunC K x qual st f (PySem.W.fnOf x qual (defArgs st) (defBody st) (defScope st) .none kV doc pm an (.ref c) ct) (cod K y) := by
  rw [cod_of ht]
  exact ⟨oc, od, kV, doc, pm, an, ct, osl, rfl, l, hc⟩
end
theorem FunC.toF {K : PySem.W.Frag} {x qual : Str} {st : Stmt} {f : Addr} {fd : FuncData} {c : Addr} (F : FunC K x qual st f fd c) (k : PySem.W.keepIn K (.ref f) = true) : Fun K x qual st f fd := by
  obtain ⟨oc, od, kV, doc, pm, an, ct, osl, e, lk, hcd⟩ := F.ex
  exact ⟨⟨oc, od, kV, doc, pm, an, _, ct, osl, e, lk, hcd⟩, k⟩
theorem tabB_of {base : Heap} {mg : Str → Option Value} {K : PySem.W.Frag} {x : Str} {c P : Addr} (h : LamX.TabB base mg c P) (ht : PySem.W.tabIn K x = some (c, P)) : GxR.TabB base mg (cod K x) (tbl K x) := by
  rw [cod_of ht, tbl_of ht]
  exact ⟨h.code, h.bm, h.gP⟩
/-- the end of a row whose defs hold generator expressions -/
theorem walk_ofG {l : PySem.W.OpenLaw} {n k : Nat} {q : Program} {loose : List Str} {XP : (Str → Option Value) → Heap → Prop} {YP : World → Heap → Prop} {d : DefRec} {K : Params → PySem.W.Frag} {CX : World → CXT} {x : Str}
    (hn : l.most = some n) (hn2 : n ≤ sizeLine) (hdf : d.params.defaults = []) (hr : Room k callerA) (hY : ∀ (w : World) (h : Heap), YP w h → (K w.params).In h)
    (F : ∀ (w : World) (mg : Str → Option Value) (fa : Addr) (h : Heap), YP w h → (K w.params).In h → h.Ns mainGlobals mg → mg d.name = some (.ref fa) →
      (∀ (x : Str) (c P : Addr), ((recsOf q).any fun e => e.name == x) = true → PySem.W.tabIn (K w.params) x = some (c, P) → PySem.W.CodeHd h c P ∧ h.get? P = some { cls := .none, data := .fields #[] }) → LamX.LawAtS l w (K w.params) (CX w) k n x mg fa h)
    (hCX : ∀ (w : World) (H : Hp) (s : Shared) (e : Value) (s' : Shared), CX w [] H s (fun _ _ _ => False) e s' → False) :
    PySem.W.WalkO q loose XP YP l.row.toRowW d [] (fun f vs => PySem.call f vs) := by
  refine Att.attach_callB hn hdf fun w s₀ s₁ mg mb fa o pm cd doc a vs ns G Y ho hd hcd hmg hobj hints hlen hbits hg => ?_
  have KX := hY w _ Y
  obtain ⟨fd, cs, sp, hT, nT, C, hb, hsp, hF⟩ := F w mg fa _ Y KX G.T.g hmg fun x c P hrec ht => by
    obtain ⟨dL, hf⟩ : ∃ dL, (recsOf q).find? (fun e => e.name == x) = some dL := by
      cases e : (recsOf q).find? (fun e => e.name == x) with
      | some dL => exact ⟨dL, rfl⟩
      | none =>
        rw [List.find?_eq_none] at e
        obtain ⟨z, hz, h2⟩ := List.any_eq_true.mp hrec
        exact absurd h2 (e z hz)
    exact PySem.W.tab_of G.T KX hf ht
  exact LamX.law_callTs KX G.T.g G.T.b G.T.builtins G.T.nolimit hg hT nT C G.T.bmain hobj hints (Nat.le_trans hlen hn2) hr hF hb (fun H hH hS => hsp H a ns hlen hbits hH hS) fun H e s' => hCX w H s₁ e s'
end WP

namespace WT
open PySem PySem.Spec PyProof.Rows L2 CwR
/-! ### with a token out: tests, ifs, loops, defs -/
def PTT (X : Cx) (e : Expr) (t : TT) : Prop :=
  ∀ (pins : List (Addr × Obj)) (s : Shared) (σ : L2.St) (H : Hp) (Q : Bool → Hp → Prop), 1 ≤ s.toks → Inv X pins σ H s → t σ H Q → wpAny (model X.prog X.w) X.A (isTrue e X.env (eval e X.env)) (TP X pins σ Q) X.xe s
def PWT (X : Cx) (e : Expr) (t : TT) : Prop :=
  ∀ (whole : Sem Value) (pins : List (Addr × Obj)) (s : Shared) (σ : L2.St) (H : Hp) (Q : Bool → Hp → Prop), 1 ≤ s.toks → Inv X pins σ H s → t σ H Q → wpAny (model X.prog X.w) X.A (isTrue e X.env whole) (TP X pins σ Q) X.xe s
section
variable {X : Cx} {st : Stmt} {rest : List Stmt} {t u : TS} {a b c e f : Expr} {te tf ta tb : TE} {tA tB tc : TT} {pos p : Pos}
theorem PTT.of (h : PT X e tA) : PTT X e tA := fun pins s σ H Q _ I q => h.run pins s σ H Q I q
theorem PWT.of (h : PW X e tA) : PWT X e tA := fun wh pins s σ H Q _ I q => h.run wh pins s σ H Q I q
theorem PWT.pt (h : PWT X e tA) : PTT X e tA := h _
theorem ptt_cmp {op : CmpOp} {r : R2} (ho : OpR X (compareOp op) r) (ha : PET X a ta) (hb : PET X b tb) (hm : behindInMarks op b = false) : PTT X (.Compare a [op] [b] pos) (tTest (tOp r ta tb)) := by
  intro pins s σ H Q h0 I h
  refine wpAny_isTrue_Compare1 (wpAny_mono (PySem.wpAny_toks (ha pins s σ H _ h0 I h)) (fun v s1 q => ?_) fun _ _ z => z.2) hm
  obtain ⟨hk, x, H1, I1, r1, q1⟩ := q
  refine thn (hb pins s1 σ H1 _ (Nat.le_trans h0 hk) I1 q1) fun u s2 ⟨y, H2, I2, r2, q2⟩ => thn (ho pins s2 σ H2 x y v u _ I2 r1 r2 q2) fun c s3 ⟨z, H3, I3, r3, k, e, q3⟩ => ?_
  subst e
  cases r3
  exact wpAny_truthy_bool ⟨H3, I3, q3⟩
theorem pwt_and {rest : List Expr} {tB' : TT} (ha : PTT X a tA) (hb : PWT X (.BoolOp .And (b :: rest) pos) tB') : PWT X (.BoolOp .And (a :: b :: rest) pos) (tAnd tA tB') := by
  intro wh pins s σ H Q h0 I h
  refine isTrue_and (wpAny_mono (PySem.wpAny_toks (ha pins s σ H _ h0 I h)) (fun c s1 q => ?_) fun _ _ z => z.2)
  obtain ⟨hk, H1, I1, q1⟩ := q
  cases c with
  | true => exact hb wh pins s1 σ H1 Q (Nat.le_trans h0 hk) I1 q1
  | false => exact ⟨H1, I1, q1⟩
theorem pat_one (ha : PET X e te) (hs : starEach [e] X.env = (false, eval e X.env) :: starEach [] X.env := by rfl) : PAT X [e] (tCons te tNil) := pat_cons ha pat_nil hs
theorem pet_callB {x : Str} {id : String} {r : List V → Hp → VK → Prop} {es : List Expr} {t : TA} (hc : CallR X (.builtin id) r) (hg : Gl X x) (hm : X.mg x = none) (hv : bootBuiltins x = some (.builtin id)) (ha : PAT X (e :: es) t) (hn : x ≠ "__name__" := by decide) (hdb : (x == ("__debug__" : Str)) = false := by decide)
    (he : starEach (e :: es) X.env = (false, eval e X.env) :: starEach es X.env := by rfl) (hpl : (backTo pos (starEach es X.env)).any (·.1) = false := by rfl) : PET X (.Call (.Name x p) (e :: es) [] pos) (tCB r t) := by
  intro pins s σ H Q h0 I h
  refine wpAny_Call_Name_kw (ld_blt I hg hm hv ?_ hn hdb)
  exact PyProof.Rows.callWith_builtin1 (thn (ha pos pins s σ H _ h0 I h) fun us s1 ⟨vs, H1, I1, r1, q1⟩ => hc pins s1 σ H1 vs us Q I1 r1 q1) he hpl
theorem pst_ifT {a b : List Stmt} (hc : PTT X c tc) (ha : PSsT X a t) (hb : PSsT X b u) : PST X (.If c a b pos) (tIfS tc t u) := by
  intro pins s σ H D h0 I h
  refine wpAny_If (wpAny_mono (PySem.wpAny_toks (hc pins s σ H _ h0 I h)) (fun d s1 q => ?_) fun _ _ z => z.2)
  obtain ⟨hk, H1, I1, q1⟩ := q
  cases d with
  | true => exact ha pins s1 σ H1 D (Nat.le_trans h0 hk) I1 q1
  | false => exact hb pins s1 σ H1 D (Nat.le_trans h0 hk) I1 q1
theorem psst_cut (h1 : PST X st t) (h2 : PSsT X rest u) : PSsT X (st :: rest) (Evl.tCut t u) := by
  intro pins s σ H D h0 I h
  obtain ⟨Mid, hm, hu⟩ := h
  refine wpAny_execs_cons (wpAny_mono (PySem.wpAny_toks (h1 pins s σ H { D with nx := Mid } h0 I hm)) (fun f s1 q => ?_) fun _ _ x => x.2)
  obtain ⟨hk, q⟩ := q
  cases f with
  | next =>
    obtain ⟨σ', H', I', q⟩ := q
    exact h2 pins s1 σ' H' D (Nat.le_trans h0 hk) I' (hu σ' H' q)
  | ret v => exact q
  | brk => exact q
  | cont => exact q
/-- for, its body with a token out -/
theorem pst_forT {tg iter : Expr} {body : List Stmt} {wi : TI} {g : TG} {tb : TS} (hp : PassesOwn (model X.prog X.w) X.A X.env X.xe) (hc : X.calm = true) (hi : PI X tg iter wi) (hg : PG X tg g) (hb : PSsT X body tb)
    (hs : ∀ x, foldedSetIterable iter X.env x = pure x := by intro _; rfl) : PST X (.For tg iter body [] pos) (tFor wi g tb) := by
  intro pins s σ H D h0 I h
  refine wpAny_For (wpAny_mono (PySem.wpAny_toks (hi.run pins s σ H _ I h)) (fun v s1 h1 => ?_) fun _ _ z => z.2) hs
  obtain ⟨hk1, h1⟩ := h1
  refine wpAny_mono (PySem.wpAny_toks h1) (fun itv s2 h2 => ?_) fun _ _ z => z.2
  obtain ⟨hk2, h2⟩ := h2
  obtain ⟨it, fp, tn, J, H2, e, I2, T, st2, f2, W, ⟨m0, w0⟩, turn⟩ := h2
  subst e
  have stat : ∀ {H' : Hp}, (∀ b ∈ fp, H' b = none) → ∀ b ∈ fp, FpOk X pins H' b := fun hn b hb => ⟨hn b hb, (f2 b hb).2⟩
  refine codeAny_forLoop_any (fun n s' => ∃ i σ' H', 1 ≤ s'.toks ∧ Inv X pins σ' H' s' ∧ tn i s'.heap ∧ (∀ b ∈ fp, H' b = none) ∧ W i n σ' H') ?_ m0 ⟨0, σ, H2, Nat.le_trans h0 (Nat.le_trans hk1 hk2), I2, st2, fun b hb => (f2 b hb).1, w0⟩
  rintro n s3 ⟨i, σ3, H3, k3, I3, st3, fr3, w3⟩
  rcases turn i n σ3 H3 w3 with ⟨stop, qn⟩ | ⟨go, N, hN, step⟩
  · refine wpAny_passesOwn hp (thn (T.done X rfl rfl rfl hc i pins s3 σ3 H3 X.xe I3 (stat fr3) st3 stop) fun r s4 ⟨hr, I4⟩ => ?_)
    subst hr
    exact wpAny_execs_nil ⟨σ3, H3, I4, qn⟩
  · refine wpAny_passesOwn hp (wpAny_mono (PySem.wpAny_toks (T.item X rfl rfl rfl hc i pins s3 σ3 H3 X.xe I3 (stat fr3) st3 go)) (fun r s4 q4 => ?_) fun _ _ z => z.2)
    obtain ⟨k4, u, hr, h4⟩ := q4
    subst hr
    refine wpAny_passesOwn hp (wpAny_mono (PySem.wpAny_toks h4) (fun _ s5 q5 => ?_) fun _ _ z => z.2)
    obtain ⟨k5, x, H5, I5, r5, y5, st5, fr5⟩ := q5
    have I5' := I5.pinned (stat fr5) (T.obj _ _ st5)
    refine wpAny_passesOwn hp (wpAny_mono (PySem.wpAny_toks (hg.run _ s5 σ3 H5 x u _ I5' r5 (step x H5 y5))) (fun _ s6 q6 => ?_) fun _ _ z => z.2)
    obtain ⟨k6, σ6, H6, I6, q6⟩ := q6
    have k06 := Nat.le_trans k3 (Nat.le_trans k4 (Nat.le_trans k5 k6))
    refine wpAny_passesOwn hp (wpAny_mono (PySem.wpAny_toks (hb _ s6 σ6 H6 _ k06 I6 q6)) (fun f s7 q7 => ?_) fun _ _ z => z.2)
    obtain ⟨k7, q7⟩ := q7
    have again : ∀ {σ7 : L2.St} {H7 : Hp}, Inv X (pins ++ pinsAt fp s5.heap) σ7 H7 s7 → N σ7 H7 → ∃ m, m < n ∧ ∃ i σ' H', 1 ≤ s7.toks ∧ Inv X pins σ' H' s7 ∧ tn i s7.heap ∧ (∀ b ∈ fp, H' b = none) ∧ W i m σ' H' := fun {σ7 H7} I7 n7 => by
      obtain ⟨m', hm, w7⟩ := hN σ7 H7 n7
      refine ⟨m', hm, i + 1, σ7, H7, Nat.le_trans k06 k7, I7.unpinned, T.keep _ _ _ st5 fun b hb o e => (I7.pin (b, o) (List.mem_append_right _ (List.mem_append_right _ (mem_pinsAt hb e)))).1, fun b hb => ?_, w7⟩
      obtain ⟨o, e, d⟩ := T.obj _ _ st5 b hb
      exact (I7.pin (b, o) (List.mem_append_right _ (List.mem_append_right _ (mem_pinsAt hb e)))).2.1
    cases f with
    | next => obtain ⟨σ7, H7, I7, n7⟩ := q7; exact again I7 n7
    | cont => obtain ⟨σ7, H7, I7, n7⟩ := q7; exact again I7 n7
    | brk => obtain ⟨σ7, H7, I7, q7⟩ := q7; exact ⟨σ7, H7, I7.unpinned, q7⟩
    | ret v => obtain ⟨x7, σ7, H7, I7, r7, q7⟩ := q7; exact ⟨x7, σ7, H7, I7.unpinned, r7, q7⟩
end
section
variable {P : Program} {w : World} {K : PySem.W.Frag} {mg : Str → Option Value} {base : Heap}
/-- a def with a parameter: at its entry a token is out -/
theorem okT {x qual : Str} {st : Stmt} {f : Addr} {fd : FuncData} {N ps : List Str} {k : Nat} {sp : Sp} (F : Fun K x qual st f fd) (S : FnScope N ps (defScope st)) (hnc : ∀ y ∈ (defScope st).names, y.2 ≠ .cell) (hps : 1 ≤ ps.length) (len : ∀ vs H Q E, sp vs H Q E → vs.length = ps.length)
    (hbody : ∀ (cdv : Value) (A : Around) (outer : List Env) (s : Shared) (H : Hp) (vs : List V) (Q : VK) (E : XK), Room k (A.deeper (envOfC qual (defScope st) s.heap.objs.size f cdv)) → sp vs H Q E →
      ∃ t, PSsT (cxOf CX0 P w K mg base N qual (defScope st) f cdv A outer s H E).nox (defBody st) t ∧ t { nx := fun _ H' => Q .non H', rt := Q } (start N vs) H) : FnOk P w K mg base CX0 (k + 1) f fd ps sp := by
  obtain ⟨oc, od, kV, doc, pm, an, cdv, ct, osl, rfl, lk, hcd⟩ := F.ex
  refine fn_ofT lk hcd S hnc hps len fun A outer s H vs Q E hr hsp => ?_
  obtain ⟨t, h, q⟩ := hbody cdv A outer s H vs Q E hr hsp
  exact ⟨t, fun pins s σ H D h0 I hw => wpAny_mono (h pins s σ H D h0 (I.wish _) hw) (fun _ _ q => q.unwish) fun _ _ z => False.elim z, q⟩
end
/-! ### the same as structures (so that they are not unfolded) -/
structure ET (X : Cx) (e : Expr) (t : TE) : Prop where
  run : PET X e t
structure TT1 (X : Cx) (e : Expr) (t : TT) : Prop where
  run : PTT X e t
structure TW (X : Cx) (e : Expr) (t : TT) : Prop where
  run : PWT X e t
structure ST (X : Cx) (st : Stmt) (t : TS) : Prop where
  run : PST X st t
structure SsT (X : Cx) (st : List Stmt) (t : TS) : Prop where
  run : PSsT X st t
section
variable {X : Cx} {st : Stmt} {rest : List Stmt} {t u : TS} {a b c e f : Expr} {te tf ta tb : TE} {tA tB tc : TT} {pos p apos c0 c1 : Pos} {y z : Str} {j k : Nat} {o : Expr} {to : TE}
theorem ET.of (h : PE X e te) : ET X e te := ⟨PET.of h⟩
theorem TT1.of (h : PT X e tA) : TT1 X e tA := ⟨PTT.of h⟩
theorem TW.of (h : PW X e tA) : TW X e tA := ⟨PWT.of h⟩
theorem TW.pt (h : TW X e tA) : TT1 X e tA := ⟨h.run.pt⟩
theorem ST.of (h : PS X st t) : ST X st t := ⟨PST.of h⟩
theorem SsT.of (h : PSs X rest t) : SsT X rest t := ⟨PSsT.of h⟩
theorem ss_cons (h1 : ST X st t) (h2 : SsT X rest u) : SsT X (st :: rest) (tSeq t u) := ⟨psst_cons h1.run h2.run⟩
theorem ss_cut (h1 : ST X st t) (h2 : SsT X rest u) : SsT X (st :: rest) (Evl.tCut t u) := ⟨psst_cut h1.run h2.run⟩
theorem ss_one (h : ST X st t) : SsT X [st] t := ⟨psst_one h.run⟩
theorem s_if {a b : List Stmt} (hc : TT1 X c tc) (ha : SsT X a t) (hb : SsT X b u) : ST X (.If c a b pos) (tIfS tc t u) := ⟨pst_ifT hc.run ha.run hb.run⟩
theorem s_for {tg iter : Expr} {body : List Stmt} {wi : TI} {g : TG} {tb : TS} (hp : PassesOwn (model X.prog X.w) X.A X.env X.xe) (hc : X.calm = true) (hi : PI X tg iter wi) (hg : PG X tg g) (hb : SsT X body tb)
    (hs : ∀ x, foldedSetIterable iter X.env x = pure x := by intro _; rfl) : ST X (.For tg iter body [] pos) (tFor wi g tb) := ⟨pst_forT hp hc hi hg hb.run hs⟩
theorem s_ret (he : ET X e te) : ST X (.Return (some e) pos) (tRet te) := ⟨pst_ret he.run⟩
theorem t_cmp {op : CmpOp} {r : R2} (ho : OpR X (compareOp op) r) (ha : ET X a ta) (hb : ET X b tb) (hm : behindInMarks op b = false) : TT1 X (.Compare a [op] [b] pos) (tTest (tOp r ta tb)) := ⟨ptt_cmp ho ha.run hb.run hm⟩
theorem w_and {rest : List Expr} {tB' : TT} (ha : TT1 X a tA) (hb : TW X (.BoolOp .And (b :: rest) pos) tB') : TW X (.BoolOp .And (a :: b :: rest) pos) (tAnd tA tB') := ⟨pwt_and ha.run hb.run⟩
theorem e_len {x : Str} {id : String} {r : List V → Hp → VK → Prop} (hc : CallR X (.builtin id) r) (hg : Gl X x) (hm : X.mg x = none) (hv : bootBuiltins x = some (.builtin id)) (ha : ET X e te) (hns : WP.noStar e = true := by rfl) (hn : x ≠ "__name__" := by decide) (hdb : (x == ("__debug__" : Str)) = false := by decide)
    (hpl : (backTo pos (starEach ([] : List Expr) X.env)).any (·.1) = false := by rfl) : ET X (.Call (.Name x p) [e] [] pos) (tCB r (tCons te tNil)) := ⟨pet_callB hc hg hm hv (pat_one ha.run (WP.starEach_no hns)) hn hdb (WP.starEach_no hns) hpl⟩
theorem e_op {op : Operator} {r : R2} (ho : OpR X (binaryOp op) r) (ha : ET X e te) (hb : ET X f tf) : ET X (.BinOp e op f pos) (tOp r te tf) := ⟨pet_op ho ha.run hb.run⟩
theorem e_replC (ho : PE X o to) (hyz : (y == z) = false := by decide)
    (hst : starEach [.Constant (.str y) j c0, .Constant (.str z) k c1] X.env = [(false, eval (.Constant (.str y) j c0) X.env), (false, eval (.Constant (.str z) k c1) X.env)] := by rfl)
    (hbase : attributeBase o "replace" X.env (eval o X.env) = eval o X.env := by rfl) (hline : (apos.endLine == pos.line) = true := by rfl) :
    ET X (.Call (.Attribute o "replace" apos) [.Constant (.str y) j c0, .Constant (.str z) k c1] [] pos) (tReplC to y z) := ⟨pet_replC ho hyz hst hbase hline⟩
theorem e_replT (ho : ET X o to) (hyz : (y == z) = false := by decide)
    (hst : starEach [.Constant (.str y) j c0, .Constant (.str z) k c1] X.env = [(false, eval (.Constant (.str y) j c0) X.env), (false, eval (.Constant (.str z) k c1) X.env)] := by rfl)
    (hbase : attributeBase o "replace" X.env (eval o X.env) = eval o X.env := by rfl) (hline : (apos.endLine == pos.line) = true := by rfl) :
    ET X (.Call (.Attribute o "replace" apos) [.Constant (.str y) j c0, .Constant (.str z) k c1] [] pos) (tReplC to y z) := ⟨pet_replT ho.run hyz hst hbase hline⟩
end
section
variable {P : Program} {w : World} {K : PySem.W.Frag} {mg : Str → Option Value} {base : Heap}
theorem okS {x qual : Str} {st : Stmt} {f : Addr} {fd : FuncData} {N ps : List Str} {k : Nat} {sp : Sp} (F : Fun K x qual st f fd) (S : FnScope N ps (defScope st)) (hnc : ∀ y ∈ (defScope st).names, y.2 ≠ .cell) (hps : 1 ≤ ps.length) (len : ∀ vs H Q E, sp vs H Q E → vs.length = ps.length)
    (hbody : ∀ (cdv : Value) (A : Around) (outer : List Env) (s : Shared) (H : Hp) (vs : List V) (Q : VK) (E : XK), Room k (A.deeper (envOfC qual (defScope st) s.heap.objs.size f cdv)) → sp vs H Q E →
      ∃ t, SsT (cxOf CX0 P w K mg base N qual (defScope st) f cdv A outer s H E).nox (defBody st) t ∧ t { nx := fun _ H' => Q .non H', rt := Q } (start N vs) H) : FnOk P w K mg base CX0 (k + 1) f fd ps sp :=
  okT F S hnc hps len fun cdv A outer s H vs Q E hr hsp => by
    obtain ⟨t, h, q⟩ := hbody cdv A outer s H vs Q E hr hsp
    exact ⟨t, h.run, q⟩
end
end WT
namespace WT
open PySem PySem.Spec PyProof.Rows L2 CwR
theorem repl {to : TE} {y z : Str} {σ : L2.St} {H : Hp} {Q : VK} (h : to σ H fun v H1 => ∃ x, v = .str x ∧ x.length + (x.length + 1) * z.length ≤ 16777216 ∧ Q (.str (Txt.replace x y z)) H1) : tReplC to y z σ H Q := h
end WT

namespace WR
open PySem PySem.Spec PyProof.Rows L2 CwR
/-- two texts of the module: their marks are known -/
structure Rp (mg : Str → Option Value) (x1 x2 y z : Str) : Prop where
  ex : ∃ t u : Tok, mg x1 = some (.str y t) ∧ mg x2 = some (.str z u) ∧ (t ≠ 0 ∧ u ≠ 0 ∧ t ≠ u) ∧ (y == z) = false
section
variable {X : Cx} {ob : Expr} {tob : TE} {x1 x2 y z : Str} {c0 c1 ap ps : Pos}
theorem pe_replK (ho : PE X ob tob) (g1 : Gl X x1) (g2 : Gl X x2) (R : Rp X.mg x1 x2 y z) (d1 : (x1 == ("__debug__" : Str)) = false := by decide) (d2 : (x2 == ("__debug__" : Str)) = false := by decide)
    (st : starEach [.Name x1 c0, .Name x2 c1] X.env = [(false, eval (.Name x1 c0) X.env), (false, eval (.Name x2 c1) X.env)] := by rfl)
    (ln : (ap.endLine == ps.line) = true := by rfl) (ab : attributeBase ob "replace" X.env (eval ob X.env) = eval ob X.env := by rfl) :
    PE X (.Call (.Attribute ob "replace" ap) [.Name x1 c0, .Name x2 c1] [] ps) (tReplC tob y z) := by
  obtain ⟨t, u, m1, m2, ⟨nt, nu, ntu⟩, nyz⟩ := R.ex
  constructor
  intro pins s σ H Q I h
  apply PySem.Call_method2 ab st ln
  refine thn (ho.run pins s σ H _ I h) fun v s1 q => ?_
  obtain ⟨w, H1, J, rw1, x, ex, le, k⟩ := q
  subst ex
  obtain ⟨tx, ev⟩ := rw1
  subst ev
  have run : ∀ {E : Value → Shared → Prop}, wpAny (model X.prog X.w) X.A (call (.builtin "str.replace") [.str x tx, .str y t, .str z u]) (EP X pins σ Q) E s1 :=
    PySem.SC.replace nt nu ntu nyz le fun t2 k2 => ⟨V.str (Txt.replace x y z), H1, J.tok k2, ⟨t2, rfl⟩, k⟩
  refine ⟨"str", _, PySem.F.plainAttrs_str, PySem.F.slot_str_replace, PySem.F.type_str_replace, typeIs_str _ _ _, (fun _ e => by cases e), ?_⟩
  apply Calls.callWith_builtin rfl
  apply Calls.evalArgs_plain
  exact Calls.spliced_cons (ld_glob J g1 m1 (Calls.spliced_cons (ld_glob J g2 m2 (Calls.spliced_nil run) d2)) d1)
end
theorem repl {ta : TE} {y z : Str} {σ : L2.St} {H : Hp} {Q : VK} (h : ta σ H fun v H1 => ∃ x, v = .str x ∧ x.length + (x.length + 1) * z.length ≤ 16777216 ∧ Q (.str (Txt.replace x y z)) H1) : tReplC ta y z σ H Q := h
end WR

namespace WZ
open PySem PySem.Spec PyProof.Rows L2
/-! ### zip of two texts -/
structure Ap (o ti to p q : Addr) : Prop where
  a1 : ti ≠ o
  a2 : to ≠ o
  a3 : p ≠ o
  a4 : q ≠ o
  b1 : ti ≠ to
  b2 : ti ≠ p
  b3 : ti ≠ q
  b4 : to ≠ p
  b5 : to ≠ q
  c1 : p ≠ q
theorem ap_new (n : Nat) : Ap (n + 4) (n + 2) (n + 3) n (n + 1) := by
  constructor <;> exact (show (_ : Nat) ≠ _ by omega)
abbrev Dr (P : Program) (w : World) (it : Addr) (x : Str) (St : Nat → Heap → Prop) : Prop :=
  ∀ A : Around, A.handled = none → Draws P w A it [it] x.cps.size (SignAt x) St
section
variable {P : Program} {w : World} {A : Around} {E : Value → Shared → Prop} {s : Shared}
theorem stE {St : Nat → Heap → Prop} {it : Addr} {x : Str} {i : Nat} {h h' : Heap} {c : Addr} (D : Dr P w it x St) (hA : A.handled = none) (st : St i h) (e : Heap.ExtBut c h h') (n : it ≠ c) : St i h' :=
  (D A hA).frame i h h' st fun b hb o ho => e b o (by rw [List.mem_singleton.mp hb]; exact n) ho
theorem live_lt {St : Nat → Heap → Prop} {it : Addr} {x : Str} {i : Nat} {h : Heap} (D : Dr P w it x St) (hA : A.handled = none) (st : St i h) : it < h.objs.size := by
  obtain ⟨o, ho⟩ := (D A hA).live i h st
  exact Heap.lt_size ho
/-- the next pair -/
theorem next_item {o ti to p q : Addr} {i j : Nat} {x y : Str} {S T : Nat → Heap → Prop} {a b : Value} {Q : Value → Shared → Prop} (hA : A.handled = none) (ap : Ap o ti to p q) (D1 : Dr P w p x S) (D2 : Dr P w q y T)
    (zo : IsZip s.heap o ti to .none) (pI : IsPair s.heap ti (.ref p) (.ref q)) (pO : IsPair s.heap to a b) (k1 : S i s.heap) (k2 : T j s.heap) (l1 : i < x.cps.size) (l2 : j < y.cps.size)
    (fin : ∀ u v h' tk, SignAt x i u → SignAt y j v → IsZip h' o ti to (rawInt s.heap.objs.size) → IsPair h' to u v → S (i + 1) h' → T (j + 1) h' → IsPair h' s.heap.objs.size u v → h'.objs.size = s.heap.objs.size + 1 →
      (∀ c ob, c ≠ o → c ≠ to → c ≠ p → c ≠ q → s.heap.get? c = some ob → h'.get? c = some ob) → Q (.ref s.heap.objs.size) { s with heap := h', toks := tk }) :
    wpAny (model P w) A (Builtin.«zip.__next__» ⟨[.ref o], []⟩) (fun f s' => ∃ v, f = .done (.ret v) ∧ Q v s') E s := by
  obtain ⟨hp, g, dn, t0, os⟩ := s
  show wpAny _ _ (field (.ref o) 2 >>= _) _ _ _
  refine wpAny_bind (wpAny_field zo rfl (x := .bool false) rfl ?_)
  show wpAny _ _ (field (.ref o) 3 >>= _) _ _ _
  refine wpAny_bind (wpAny_field zo rfl (x := .ref ti) rfl ?_)
  refine wpAny_bind (wpAny_seqItems pI rfl ?_)
  show wpAny _ _ (Builtin.SmallTypes.ownedTupleIsFree (.ref o) >>= _) _ _ _
  refine wpAny_bind (m := Builtin.SmallTypes.ownedTupleIsFree (.ref o)) ?_
  unfold Builtin.SmallTypes.ownedTupleIsFree
  refine wpAny_bind (wpAny_field zo rfl (x := .none) rfl (wpAny_pure ?_))
  simp only [if_true]
  refine wpAny_bind (wpAny_rule (wpAny_bind (wpAny_field zo rfl (x := .ref to) rfl (wpAny_bind (wpAny_setField_rec zo (by simp) fun h₁ z₁ e₁ => ?_)))))
  replace z₁ : IsZip h₁ o ti to .ellipsis := z₁
  replace e₁ : Heap.SameBut o hp h₁ := e₁
  refine wpAny_bind (m := forIn _ _ _) ?_
  simp only [List.zipIdx_cons, List.zipIdx_nil, List.forIn_cons, List.forIn_nil]
  refine wpAny_bind (wpAny_bind (wpAny_onRaise ?_))
  show wpAny _ _ (Builtin.SmallTypes.nextOf (.ref p) >>= _) _ _ ⟨h₁, g, dn, t0, os⟩
  refine wpAny_bind ((D1 _ hA).item i _ _ _ l1 (stE D1 hA k1 e₁.extBut ap.a3) fun u h₂ t1 hu s₂ e₂ => wpAny_pure ?_)
  replace e₂ : Heap.SameBut p h₁ h₂ := e₂
  have o₂ : IsPair h₂ to a b := e₂.extBut _ _ ap.b4 (e₁.extBut _ _ ap.a2 pO)
  refine wpAny_bind (wpAny_seqItems (s := ⟨h₂, g, dn, t1, os⟩) o₂ rfl ?_)
  refine wpAny_bind (wpAny_updateSeq_pair (s := ⟨h₂, g, dn, t1, os⟩) o₂ fun h₃ o₃ e₃ => ?_)
  replace o₃ : IsPair h₃ to u b := o₃
  replace e₃ : Heap.SameBut to h₂ h₃ := e₃
  refine wpAny_bind (wpAny_letGo (wpAny_pure ?_))
  refine wpAny_bind (wpAny_bind (wpAny_onRaise ?_))
  show wpAny _ _ (Builtin.SmallTypes.nextOf (.ref q) >>= _) _ _ ⟨h₃, g, dn, t1, os⟩
  have st2 : T j h₃ := stE D2 hA (stE D2 hA (stE D2 hA k2 e₁.extBut ap.a4) e₂.extBut ap.c1.symm) e₃.extBut ap.b5.symm
  refine wpAny_bind ((D2 _ hA).item j ⟨h₃, g, dn, t1, os⟩ _ _ l2 st2 fun v h₄ t2 hv s₄ e₄ => wpAny_pure ?_)
  replace e₄ : Heap.SameBut q h₃ h₄ := e₄
  have o₄ : IsPair h₄ to u b := e₄.extBut _ _ ap.b5 o₃
  refine wpAny_bind (wpAny_seqItems (s := ⟨h₄, g, dn, t2, os⟩) o₄ rfl ?_)
  refine wpAny_bind (wpAny_updateSeq_pair (s := ⟨h₄, g, dn, t2, os⟩) o₄ fun h₅ o₅ e₅ => ?_)
  replace o₅ : IsPair h₅ to u v := o₅
  replace e₅ : Heap.SameBut to h₄ h₅ := e₅
  refine wpAny_bind (wpAny_letGo (wpAny_pure (wpAny_pure ?_)))
  refine wpAny_bind (wpAny_seqItems (s := ⟨h₅, g, dn, t2, os⟩) o₅ rfl (wpAny_bind (wpAny_newTuple ?_)))
  have sz : h₅.objs.size = hp.objs.size := by rw [e₅.1, e₄.1, e₃.1, e₂.1, e₁.1]
  have z₅ : IsZip h₅ o ti to .ellipsis := e₅.extBut _ _ ap.a2.symm (e₄.extBut _ _ ap.a4.symm (e₃.extBut _ _ ap.a2.symm (e₂.extBut _ _ ap.a3.symm z₁)))
  have up5 : ∀ c ob, c ≠ o → c ≠ to → c ≠ p → c ≠ q → hp.get? c = some ob → h₅.get? c = some ob := fun c ob n1 n2 n3 n4 h =>
    e₅.extBut _ _ n2 (e₄.extBut _ _ n4 (e₃.extBut _ _ n2 (e₂.extBut _ _ n3 (e₁.extBut _ _ n1 h))))
  have s1₅ : S (i + 1) h₅ := stE D1 hA (stE D1 hA (stE D1 hA s₂ e₃.extBut ap.b4.symm) e₄.extBut ap.c1) e₅.extBut ap.b4.symm
  have s2₅ : T (j + 1) h₅ := stE D2 hA s₄ e₅.extBut ap.b5.symm
  have lo : o < h₅.objs.size := Heap.lt_size z₅
  have lt : to < h₅.objs.size := Heap.lt_size o₅
  have lp := live_lt D1 hA s1₅
  have lq := live_lt D2 hA s2₅
  show wpAny _ _ (Builtin.SmallTypes.ownedTupleHandOut (.ref o) (.ref h₅.objs.size) >>= _) _ _ _
  refine wpAny_bind (m := Builtin.SmallTypes.ownedTupleHandOut (.ref o) (.ref h₅.objs.size)) ?_
  unfold Builtin.SmallTypes.ownedTupleHandOut
  have z₆ : IsZip (h₅.push { cls := .type "tuple", data := .seq #[u, v] }) o ti to .ellipsis := Heap.get?_push_of_some _ z₅
  refine wpAny_bind (wpAny_setField_rec (s := ⟨h₅.push { cls := .type "tuple", data := .seq #[u, v] }, g, dn, t2, os⟩) z₆ (by simp) fun h₇ z₇ e₇ => ?_)
  replace z₇ : IsZip h₇ o ti to (rawInt h₅.objs.size) := z₇
  replace e₇ : Heap.SameBut o (h₅.push { cls := .type "tuple", data := .seq #[u, v] }) h₇ := e₇
  refine wpAny_setField_rec (s := ⟨h₇, g, dn, t2, os⟩) z₇ (by simp) fun h₈ z₈ e₈ => ?_
  replace z₈ : IsZip h₈ o ti to (rawInt h₅.objs.size) := z₈
  replace e₈ : Heap.SameBut o h₇ h₈ := e₈
  have up : ∀ c ob, c ≠ o → h₅.get? c = some ob → h₈.get? c = some ob := fun c ob n1 h => e₈.extBut _ _ n1 (e₇.extBut _ _ n1 (Heap.get?_push_of_some _ h))
  have t₈ : IsPair h₈ h₅.objs.size u v := e₈.extBut _ _ (Nat.ne_of_gt lo) (e₇.extBut _ _ (Nat.ne_of_gt lo) (Heap.get?_push_size _ rfl))
  have sz8 : h₈.objs.size = h₅.objs.size + 1 := by rw [e₈.1, e₇.1, Heap.size_push]
  rw [sz] at z₈ t₈ sz8
  refine wpAny_pure ⟨_, rfl, ?_⟩
  show Q (.ref h₅.objs.size) _
  rw [sz]
  have fr1 : S (i + 1) h₈ := (D1 A hA).frame _ _ _ s1₅ fun b hb ob h => by
    rw [List.mem_singleton.mp hb] at h ⊢
    exact up _ _ ap.a3 h
  have fr2 : T (j + 1) h₈ := (D2 A hA).frame _ _ _ s2₅ fun b hb ob h => by
    rw [List.mem_singleton.mp hb] at h ⊢
    exact up _ _ ap.a4 h
  exact fin u v h₈ t2 hu hv z₈ (up _ _ ap.a2 o₅) fr1 fr2 t₈ sz8 fun c ob n1 n2 n3 n4 h => up c ob n1 (up5 c ob n1 n2 n3 n4 h)
/-- no next pair -/
theorem next_end {o ti to p q : Addr} {i j : Nat} {x y : Str} {S T : Nat → Heap → Prop} {a b : Value} {Q : Fin → Shared → Prop} (hA : A.handled = none) (ap : Ap o ti to p q) (D1 : Dr P w p x S) (D2 : Dr P w q y T)
    (zo : IsZip s.heap o ti to .none) (pI : IsPair s.heap ti (.ref p) (.ref q)) (pO : IsPair s.heap to a b) (k1 : S i s.heap) (k2 : T j s.heap) (l : i = x.cps.size ∨ i < x.cps.size ∧ j = y.cps.size)
    (fin : ∀ h' e tk, (∀ c ob, c ≠ o → c ≠ to → c ≠ p → c ≠ q → s.heap.get? c = some ob → h'.get? c = some ob) → (∃ oe, h'.get? e = some oe ∧ oe.cls = .type "StopIteration") → E (.ref e) { s with heap := h', toks := tk }) :
    wpAny (model P w) A (Builtin.«zip.__next__» ⟨[.ref o], []⟩) Q E s := by
  obtain ⟨hp, g, dn, t0, os⟩ := s
  show wpAny _ _ (field (.ref o) 2 >>= _) _ _ _
  refine wpAny_bind (wpAny_field zo rfl (x := .bool false) rfl ?_)
  show wpAny _ _ (field (.ref o) 3 >>= _) _ _ _
  refine wpAny_bind (wpAny_field zo rfl (x := .ref ti) rfl ?_)
  refine wpAny_bind (wpAny_seqItems pI rfl ?_)
  show wpAny _ _ (Builtin.SmallTypes.ownedTupleIsFree (.ref o) >>= _) _ _ _
  refine wpAny_bind (m := Builtin.SmallTypes.ownedTupleIsFree (.ref o)) ?_
  unfold Builtin.SmallTypes.ownedTupleIsFree
  refine wpAny_bind (wpAny_field zo rfl (x := .none) rfl (wpAny_pure ?_))
  simp only [if_true]
  refine wpAny_bind (wpAny_rule (wpAny_bind (wpAny_field zo rfl (x := .ref to) rfl (wpAny_bind (wpAny_setField_rec zo (by simp) fun h₁ z₁ e₁ => ?_)))))
  replace z₁ : IsZip h₁ o ti to .ellipsis := z₁
  replace e₁ : Heap.SameBut o hp h₁ := e₁
  refine wpAny_bind (m := forIn _ _ _) ?_
  simp only [List.zipIdx_cons, List.zipIdx_nil, List.forIn_cons, List.forIn_nil]
  refine wpAny_bind (wpAny_bind (wpAny_onRaise ?_))
  show wpAny _ _ (Builtin.SmallTypes.nextOf (.ref p) >>= _) _ _ ⟨h₁, g, dn, t0, os⟩
  rcases l with rfl | ⟨l1, rfl⟩
  · refine wpAny_bind ((D1 _ hA).done ⟨h₁, g, dn, t0, os⟩ _ _ (stE D1 hA k1 e₁.extBut ap.a3) fun h₂ e e₂ he => ?_)
    obtain ⟨oe, hoe, hce⟩ := he
    have z₂ : IsZip h₂ o ti to .ellipsis := e₂ _ _ ap.a3.symm z₁
    have ez : e ≠ o := fun c => by subst c; rw [z₂] at hoe; cases hoe; simp at hce
    exact wpAny_setField_rec (s := ⟨h₂, g, dn, t0, os⟩) z₂ (by simp) fun h₃ _ e₃ => fin h₃ e t0 (fun c ob n1 _ n3 _ h => e₃.extBut _ _ n1 (e₂ _ _ n3 (e₁.extBut _ _ n1 h))) ⟨oe, e₃.extBut _ _ ez hoe, hce⟩
  · refine wpAny_bind ((D1 _ hA).item i ⟨h₁, g, dn, t0, os⟩ _ _ l1 (stE D1 hA k1 e₁.extBut ap.a3) fun u h₂ t1 hu s₂ e₂ => wpAny_pure ?_)
    replace e₂ : Heap.SameBut p h₁ h₂ := e₂
    have o₂ : IsPair h₂ to a b := e₂.extBut _ _ ap.b4 (e₁.extBut _ _ ap.a2 pO)
    refine wpAny_bind (wpAny_seqItems (s := ⟨h₂, g, dn, t1, os⟩) o₂ rfl ?_)
    refine wpAny_bind (wpAny_updateSeq_pair (s := ⟨h₂, g, dn, t1, os⟩) o₂ fun h₃ o₃ e₃ => ?_)
    replace e₃ : Heap.SameBut to h₂ h₃ := e₃
    refine wpAny_bind (wpAny_letGo (wpAny_pure ?_))
    refine wpAny_bind (wpAny_bind (wpAny_onRaise ?_))
    show wpAny _ _ (Builtin.SmallTypes.nextOf (.ref q) >>= _) _ _ ⟨h₃, g, dn, t1, os⟩
    have st2 := stE D2 hA (stE D2 hA (stE D2 hA k2 e₁.extBut ap.a4) e₂.extBut ap.c1.symm) e₃.extBut ap.b5.symm
    refine wpAny_bind ((D2 _ hA).done ⟨h₃, g, dn, t1, os⟩ _ _ st2 fun h₄ e e₄ he => ?_)
    obtain ⟨oe, hoe, hce⟩ := he
    have z₄ : IsZip h₄ o ti to .ellipsis := e₄ _ _ ap.a4.symm (e₃.extBut _ _ ap.a2.symm (e₂.extBut _ _ ap.a3.symm z₁))
    have ez : e ≠ o := fun c => by subst c; rw [z₄] at hoe; cases hoe; simp at hce
    exact wpAny_setField_rec (s := ⟨h₄, g, dn, t1, os⟩) z₄ (by simp) fun h₅ _ e₅ => fin h₅ e t1 (fun c ob n1 n2 n3 n4 h => e₅.extBut _ _ n1 (e₄ _ _ n4 (e₃.extBut _ _ n2 (e₂.extBut _ _ n3 (e₁.extBut _ _ n1 h))))) ⟨oe, e₅.extBut _ _ ez hoe, hce⟩
theorem py_item {o ti to p q : Addr} {i j : Nat} {x y : Str} {S T : Nat → Heap → Prop} {a b : Value} {Q : Option Value → Shared → Prop} (hA : A.handled = none) (ap : Ap o ti to p q) (D1 : Dr P w p x S) (D2 : Dr P w q y T)
    (zo : IsZip s.heap o ti to .none) (pI : IsPair s.heap ti (.ref p) (.ref q)) (pO : IsPair s.heap to a b) (k1 : S i s.heap) (k2 : T j s.heap) (l1 : i < x.cps.size) (l2 : j < y.cps.size)
    (fin : ∀ u v h' tk, SignAt x i u → SignAt y j v → IsZip h' o ti to (rawInt s.heap.objs.size) → IsPair h' to u v → S (i + 1) h' → T (j + 1) h' → IsPair h' s.heap.objs.size u v → h'.objs.size = s.heap.objs.size + 1 →
      (∀ c ob, c ≠ o → c ≠ to → c ≠ p → c ≠ q → s.heap.get? c = some ob → h'.get? c = some ob) → Q (some (.ref s.heap.objs.size)) { s with heap := h', toks := tk }) :
    wpAny (model P w) A (pyNext (.ref o)) Q E s := by
  have ty : s.TypeIs (.ref o) "zip" := ⟨_, zo, rfl⟩
  unfold pyNext
  refine wpAny_bind (wpAny_attempt (wpAny_callSpecial?_slot (name := Str.ofString "__next__") ty F.slot_zip_next (wpAny_call_entry F.slot_zip_next ty F.entry_zip_next ?_ (F.args_zip_next_1 _))))
  exact next_item hA ap D1 D2 zo pI pO k1 k2 l1 l2 fun u v h' tk b1 b2 b3 b4 b5 b6 b7 b8 b9 => wpAny_pure (fin u v h' tk b1 b2 b3 b4 b5 b6 b7 b8 b9)
theorem py_end {o ti to p q : Addr} {i j : Nat} {x y : Str} {S T : Nat → Heap → Prop} {a b : Value} {Q : Option Value → Shared → Prop} (hA : A.handled = none) (ap : Ap o ti to p q) (D1 : Dr P w p x S) (D2 : Dr P w q y T)
    (zo : IsZip s.heap o ti to .none) (pI : IsPair s.heap ti (.ref p) (.ref q)) (pO : IsPair s.heap to a b) (k1 : S i s.heap) (k2 : T j s.heap) (l : i = x.cps.size ∨ i < x.cps.size ∧ j = y.cps.size)
    (fin : ∀ h' tk, (∀ c ob, c ≠ o → c ≠ to → c ≠ p → c ≠ q → s.heap.get? c = some ob → h'.get? c = some ob) → Q none { s with heap := h', toks := tk }) : wpAny (model P w) A (pyNext (.ref o)) Q E s := by
  have ty : s.TypeIs (.ref o) "zip" := ⟨_, zo, rfl⟩
  unfold pyNext
  refine wpAny_bind (wpAny_attempt (wpAny_callSpecial?_slot (name := Str.ofString "__next__") ty F.slot_zip_next (wpAny_call_entry F.slot_zip_next ty F.entry_zip_next (next_end hA ap D1 D2 zo pI pO k1 k2 l fun h' e tk hk he => ?_) (F.args_zip_next_1 _))))
  obtain ⟨oe, hoe, hce⟩ := he
  exact wpAny_bind (wpAny_isInstance (T := "StopIteration") (b := true) ⟨oe, hoe, hce⟩ isSubtype_stop (wpAny_pure (fin _ _ hk)))
end
/-- the iterator of a text -/
def itTy (x : Str) : String := if x.cps.all (· < 128) = true then "str_ascii_iterator" else "str_iterator"
theorem dr_str {P : Program} {w : World} {it : Addr} {x : Str} {t : Tok} : Dr P w it x (fun i h => h.IsStrIter it (itTy x) x t i) := fun A hA => by
  unfold itTy
  by_cases h : x.cps.all (· < 128) = true
  · simp only [h, if_true]
    exact Draws.strAscii hA it x t
  · simp only [h, if_false]
    exact Draws.strWide hA it x t
section
variable {P : Program} {w : World} {A : Around} {E : Value → Shared → Prop} {s : Shared}
theorem iter_str {x : Str} {t : Tok} {Q : Value → Shared → Prop} (fin : Q (.ref s.heap.objs.size) { s with heap := s.heap.push { cls := .type (itTy x), data := .fields #[.str x t, .int 0 0] } }) : wpAny (model P w) A (pyIter (.str x t)) Q E s := by
  unfold itTy at fin
  cases h : x.cps.all (· < 128)
  · rw [h] at fin
    exact wpAny_pyIter_wide h fin
  · rw [h] at fin
    exact wpAny_pyIter_ascii h fin
end
abbrev P1 (h : Heap) (x : Str) (t : Tok) : Heap := h.push { cls := .type (itTy x), data := .fields #[.str x t, .int 0 0] }
abbrev P2 (h : Heap) (x y : Str) (t u : Tok) : Heap := (P1 h x t).push { cls := .type (itTy y), data := .fields #[.str y u, .int 0 0] }
abbrev P3 (h : Heap) (x y : Str) (t u : Tok) : Heap := (P2 h x y t u).push { cls := .type "tuple", data := .seq #[.ref h.objs.size, .ref (P1 h x t).objs.size] }
abbrev P4 (h : Heap) (x y : Str) (t u : Tok) : Heap := (P3 h x y t u).push { cls := .type "tuple", data := .seq #[.none, .none] }
abbrev P5 (h : Heap) (x y : Str) (t u : Tok) : Heap := (P4 h x y t u).push { cls := .type "zip", data := .fields #[.none, .bool false, .bool false, .ref (P2 h x y t u).objs.size, .ref (P3 h x y t u).objs.size] }
theorem new_str (x y : Str) (t u : Tok) : Meets (Builtin.«zip.__new__» ⟨[.type "zip", .str x t, .str y u], []⟩) (fun _ R s => R (.ok (.ret (.ref (P4 s.heap x y t u).objs.size))) { s with heap := P5 s.heap x y t u }) :=
  .of_wp fun prog w A R s h => by
    obtain ⟨hp, g, d, tk, os⟩ := s
    have hsub := sub_zip
    wp_walk using iter_str, iter_str
    exact ⟨_, rfl, h⟩
section
variable {P : Program} {w : World} {A : Around} {E : Value → Shared → Prop} {s : Shared}
theorem call_str {x y : Str} {t u : Tok} {Q : Value → Shared → Prop}
    (fin : ∀ h', IsZip h' (s.heap.objs.size + 4) (s.heap.objs.size + 2) (s.heap.objs.size + 3) .none → IsPair h' (s.heap.objs.size + 2) (.ref s.heap.objs.size) (.ref (s.heap.objs.size + 1)) → IsPair h' (s.heap.objs.size + 3) .none .none →
      h'.IsStrIter s.heap.objs.size (itTy x) x t 0 → h'.IsStrIter (s.heap.objs.size + 1) (itTy y) y u 0 → (∀ c ob, s.heap.get? c = some ob → h'.get? c = some ob) → Q (.ref (s.heap.objs.size + 4)) { s with heap := h' }) :
    wpAny (model P w) A (call (.type "zip") [.str x t, .str y u]) Q E s := by
  refine callType_new F.called_zip (by decide) (F.typeCall_zip_2 _ _) (F.newCall_zip_2 _ _) (fun obj => F.args_object_init_3 obj _ _) F.entry_zip_new (new_str x y t u) ?_
  have z1 : (P1 s.heap x t).objs.size = s.heap.objs.size + 1 := Heap.size_push ..
  have z2 : (P2 s.heap x y t u).objs.size = s.heap.objs.size + 2 := (Heap.size_push ..).trans (by rw [z1])
  have z3 : (P3 s.heap x y t u).objs.size = s.heap.objs.size + 3 := (Heap.size_push ..).trans (by rw [z2])
  have z4 : (P4 s.heap x y t u).objs.size = s.heap.objs.size + 4 := (Heap.size_push ..).trans (by rw [z3])
  have w5 : (P5 s.heap x y t u).get? (P4 s.heap x y t u).objs.size = some _ := Heap.get?_push_size _ rfl
  have w4 : (P5 s.heap x y t u).get? (P3 s.heap x y t u).objs.size = some _ := Heap.get?_push_of_some _ (Heap.get?_push_size _ rfl)
  have w3 : (P5 s.heap x y t u).get? (P2 s.heap x y t u).objs.size = some _ := Heap.get?_push_of_some _ (Heap.get?_push_of_some _ (Heap.get?_push_size _ rfl))
  have w2 : (P5 s.heap x y t u).get? (P1 s.heap x t).objs.size = some _ := Heap.get?_push_of_some _ (Heap.get?_push_of_some _ (Heap.get?_push_of_some _ (Heap.get?_push_size _ rfl)))
  have w1 : (P5 s.heap x y t u).get? s.heap.objs.size = some _ := Heap.get?_push_of_some _ (Heap.get?_push_of_some _ (Heap.get?_push_of_some _ (Heap.get?_push_of_some _ (Heap.get?_push_size _ rfl))))
  show _ ∧ _
  rw [z2, z3, z4] at w5
  rw [z1, z2] at w3
  rw [z3] at w4
  rw [z1] at w2
  rw [z4]
  refine ⟨⟨_, w5, rfl⟩, fin _ w5 w3 w4 ⟨_, w1, rfl, rfl⟩ ⟨_, w2, rfl, rfl⟩ fun c ob h => ?_⟩
  exact Heap.get?_push_of_some _ (Heap.get?_push_of_some _ (Heap.get?_push_of_some _ (Heap.get?_push_of_some _ (Heap.get?_push_of_some _ h))))
end
/-- the signs of two texts, side by side -/
def ItzS (x y : Str) : It :=
  ⟨fun i _ => i < x.cps.size ∧ i < y.cps.size,
    fun i H v H' => ∃ (T : Addr) (c d : Nat), v = .ref T ∧ H T = none ∧ x.cps[i]? = some c ∧ y.cps[i]? = some d ∧ H' = upd H T (.tup [.str ⟨#[c]⟩, .str ⟨#[d]⟩]),
    fun i _ => i = x.cps.size ∨ i < x.cps.size ∧ i = y.cps.size⟩
theorem turn_zipS {P : Program} {w : World} {K : PySem.W.Frag} {elts : List Expr} {kk : Nat} {tpos : Pos} {x y : Str} {t u : Tok} {o ti to p q : Addr} (ap : Ap o ti to p q) :
    Turn P w K (.Tuple elts kk tpos) (ItzS x y) [o, ti, to, p, q] o (fun i h => IsZip h o ti to .none ∧ IsPair h ti (.ref p) (.ref q) ∧ (∃ a b, IsPair h to a b) ∧ h.IsStrIter p (itTy x) x t i ∧ h.IsStrIter q (itTy y) y u i) where
  mem := .head _
  obj := fun i h st c hc => by
    obtain ⟨k1, k2, ⟨a, b, k3⟩, ⟨o1, e1, _, d1⟩, ⟨o2, e2, _, d2⟩⟩ := st
    have hc' : c = o ∨ c = ti ∨ c = to ∨ c = p ∨ c = q := by simpa using hc
    rcases hc' with rfl | rfl | rfl | rfl | rfl
    · exact ⟨_, k1, fun v n => nomatch n⟩
    · exact ⟨_, k2, fun v n => nomatch n⟩
    · exact ⟨_, k3, fun v n => nomatch n⟩
    · exact ⟨o1, e1, fun v n => by rw [d1] at n; cases n⟩
    · exact ⟨o2, e2, fun v n => by rw [d2] at n; cases n⟩
  keep := fun i h h' st k => by
    obtain ⟨k1, k2, ⟨a, b, k3⟩, ⟨o1, e1, r1⟩, ⟨o2, e2, r2⟩⟩ := st
    exact ⟨k o (by simp) _ k1, k ti (by simp) _ k2, ⟨a, b, k to (by simp) _ k3⟩, ⟨o1, k p (by simp) _ e1, r1⟩, ⟨o2, k q (by simp) _ e2, r2⟩⟩
  item := by
    intro X hP hw hK hc i pins s σ H E I hf st hg
    subst hP hw hK
    obtain ⟨k1, k2, ⟨a, b, k3⟩, k4, k5⟩ := st
    obtain ⟨l1, l2⟩ := hg
    have ol : o < s.heap.objs.size := Heap.lt_size k1
    refine py_item (I.ok.hd hc) ap dr_str dr_str k1 k2 k3 k4 k5 l1 l2 fun c d h' tk hcu hdv z' o' s1' s2' hT hsz hk => ?_
    obtain ⟨cc, tc, hcc, rfl⟩ := hcu
    obtain ⟨dd, td, hdd, rfl⟩ := hdv
    refine ⟨_, rfl, wpAny_letOwnedTupleGo_zip (s := { s with heap := h', toks := tk }) z' fun h'' z'' sb => ?_⟩
    have hT2 : h''.get? s.heap.objs.size = some { cls := .type "tuple", data := .seq #[.str ⟨#[cc]⟩ tc, .str ⟨#[dd]⟩ td] } := (sb.2 _ (Nat.ne_of_gt ol)).trans hT
    have new : ObjOk X.prog X.w (upd H s.heap.objs.size (.tup [.str ⟨#[cc]⟩, .str ⟨#[dd]⟩])) h'' s.heap.objs.size (.tup [.str ⟨#[cc]⟩, .str ⟨#[dd]⟩]) :=
      ⟨by show 2 ≤ sizeLine; decide, [.str ⟨#[cc]⟩ tc, .str ⟨#[dd]⟩ td], .cons ⟨tc, rfl⟩ (.cons ⟨td, rfl⟩ .nil), ⟨_, hT2, rfl, _, rfl⟩⟩
    have I1 : Inv X pins σ (upd H s.heap.objs.size (.tup [.str ⟨#[cc]⟩, .str ⟨#[dd]⟩])) { s with heap := h'', toks := tk } :=
      I.turnedNew (t' := tk) (ch := [o, ti, to, p, q]) (fun c ob hb e => (sb.2 c (fun n => hb (by simp [n]))).trans (hk c ob (fun n => hb (by simp [n])) (fun n => hb (by simp [n])) (fun n => hb (by simp [n])) (fun n => hb (by simp [n])) e)) hf (Nat.le_refl _) new
    refine ⟨.ref s.heap.objs.size, _, I1, rfl, ⟨_, cc, dd, rfl, I.hok.fresh (Nat.le_refl _), hcc, hdd, rfl⟩, ⟨z'', ?_, ⟨_, _, (sb.2 _ ap.a2).trans o'⟩, ?_, ?_⟩, fun c hcm => ?_⟩
    · exact (sb.2 _ ap.a1).trans (hk _ _ ap.a1 ap.b1 ap.b2 ap.b3 k2)
    · obtain ⟨ob, e, r⟩ := s1'
      exact ⟨ob, (sb.2 _ ap.a3).trans e, r⟩
    · obtain ⟨ob, e, r⟩ := s2'
      exact ⟨ob, (sb.2 _ ap.a4).trans e, r⟩
    · have lt : c < s.heap.objs.size := by
        have hc' : c = o ∨ c = ti ∨ c = to ∨ c = p ∨ c = q := by simpa using hcm
        rcases hc' with rfl | rfl | rfl | rfl | rfl
        · exact ol
        · exact Heap.lt_size k2
        · exact Heap.lt_size k3
        · obtain ⟨_, e, _⟩ := k4; exact Heap.lt_size e
        · obtain ⟨_, e, _⟩ := k5; exact Heap.lt_size e
      rw [upd_ne (Nat.ne_of_lt lt)]
      exact (hf c hcm).1
  done := by
    intro X hP hw hK hc i pins s σ H E I hf st hg
    subst hP hw hK
    obtain ⟨k1, k2, ⟨a, b, k3⟩, k4, k5⟩ := st
    refine py_end (I.ok.hd hc) ap dr_str dr_str k1 k2 k3 k4 k5 hg fun h' tk hk => ⟨rfl, I.turnedL (t' := tk) (ch := [o, ti, to, p, q]) (fun c ob hb e => ?_) hf⟩
    exact hk c ob (fun n => hb (by simp [n])) (fun n => hb (by simp [n])) (fun n => hb (by simp [n])) (fun n => hb (by simp [n])) e
  self := fun A i s Q E st h => wpAny_pyIter_zip st.1 h
def iZipS (ta : TA) : TI := fun σ H R => ta σ H fun vs H1 => ∃ x y : Str, vs = [.str x, .str y] ∧ R (ItzS x y) H1
theorem pi_zipS {X : Cx} {e e2 : Expr} {ta : TA} {p pos tpos : Pos} {elts : List Expr} {kk : Nat} (hg : Gl X "zip") (hm : X.mg "zip" = none) (ha : PA X [e, e2] ta)
    (h1 : starEach [e, e2] X.env = (false, eval e X.env) :: starEach [e2] X.env := by rfl) (h2 : (backTo pos (starEach [e2] X.env)).any (·.1) = false := by rfl) : PI X (.Tuple elts kk tpos) (.Call (.Name "zip" p) [e, e2] [] pos) (iZipS ta) := by
  refine ⟨fun pins s σ H R I h => ?_⟩
  refine Call_ (ld_blt I hg hm PyProof.Rows.boot_zip (PyProof.Rows.callWith_type1 (thn (ha.run pos pins s σ H _ I h) fun us s1 ⟨vs, H1, I1, r1, x, y, ex, q⟩ => ?_) h1 h2))
  subst ex
  cases r1 with
  | cons r rr =>
    cases rr with
    | cons r' rr =>
      cases rr
      obtain ⟨t, rfl⟩ := r
      obtain ⟨u, rfl⟩ := r'
      refine call_str fun h' k1 k2 k3 k4 k5 hk => wpAny_pyIter_zip k1 ?_
      have I2 : Inv X pins σ H1 { s1 with heap := h' } := I1.kept (t' := s1.toks) hk
      refine ⟨s1.heap.objs.size + 4, [s1.heap.objs.size + 4, s1.heap.objs.size + 2, s1.heap.objs.size + 3, s1.heap.objs.size, s1.heap.objs.size + 1], _, _, H1, rfl, I2, turn_zipS (t := t) (u := u) (ap_new _), ⟨k1, k2, ⟨_, _, k3⟩, k4, k5⟩, fun c hc => ?_, q⟩
      have le : s1.heap.objs.size ≤ c := by
        simp only [List.mem_cons, List.not_mem_nil, or_false] at hc
        rcases hc with e | e | e | e | e <;> subst e <;> first | exact Nat.le_refl _ | exact Nat.le_add_right _ _
      exact I1.fpOk le (I1.hok.fresh le)
/-- a loop over zip of two texts of one length -/
theorem for_zipS {l m : List Nat} {g : TG} {tb : TS} {D : Ends} {σ : L2.St} {H : Hp} (hl : l.length = m.length) (Pv : Nat → L2.St → Hp → Prop) (h0 : Pv 0 σ H)
    (hs : ∀ (i c d : Nat) (T : Addr) (σ : L2.St) (H : Hp), l[i]? = some c → m[i]? = some d → Pv i σ H → H T = none → g (.ref T) σ (upd H T (.tup [.str (SX.S [c]), .str (SX.S [d])])) fun σ2 H2 => tb { D with nx := Pv (i + 1), ct := Pv (i + 1), bk := D.nx } σ2 H2) (hd : ∀ σ H, Pv l.length σ H → D.nx σ H) :
    ∃ W : Nat → Nat → L2.St → Hp → Prop, (∃ m, W 0 m σ H) ∧ ∀ i n σ H, W i n σ H →
      ((ItzS (SX.S l) (SX.S m)).stop i H ∧ D.nx σ H) ∨ ((ItzS (SX.S l) (SX.S m)).go i H ∧ ∃ N : L2.St → Hp → Prop, (∀ σ' H', N σ' H' → ∃ m', m' < n ∧ W (i + 1) m' σ' H') ∧ ∀ v H', (ItzS (SX.S l) (SX.S m)).yld i H v H' → g v σ H' fun σ2 H2 => tb { D with nx := N, ct := N, bk := D.nx } σ2 H2) := by
  refine ⟨fun i n σ H => n = l.length - i ∧ i ≤ l.length ∧ Pv i σ H, ⟨l.length, rfl, Nat.zero_le _, h0⟩, ?_⟩
  rintro i n σ H ⟨rfl, hi, pv⟩
  by_cases lt : i < l.length
  · refine .inr ⟨⟨show i < l.length from lt, show i < m.length by omega⟩, Pv (i + 1), fun σ' H' p' => ⟨l.length - (i + 1), by omega, rfl, lt, p'⟩, fun v H' y => ?_⟩
    obtain ⟨T, c, d, rfl, hT, hc, hd', rfl⟩ := y
    exact hs i c d T σ H (by rw [← hc]; simp [SX.S]) (by rw [← hd']; simp [SX.S]) pv hT
  · have e : i = l.length := by omega
    subst e
    exact .inl ⟨.inl rfl, hd σ H pv⟩
end WZ
namespace WP
open PySem PySem.Spec PyProof.Rows L2 WZ
theorem zipS {ta : TA} {σ : L2.St} {H : Hp} {R : It → Hp → Prop} (h : ta σ H fun vs H1 => ∃ x y : Str, vs = [.str x, .str y] ∧ R (ItzS x y) H1) : iZipS ta σ H R := h
theorem Sm.mut {H H' : Hp} {p : Addr} {xs ys : List V} (e : Sm H H') (h : H p = none) (hp : H' p = some (.lst xs)) : Sm H (upd H' p (.lst ys)) := by
  refine ⟨fun b u hb nt => ?_, fun P hP => ?_⟩
  · rw [upd_ne (ne_of_none hb h)]
    exact e.k b u hb nt
  · obtain ⟨ps, h1, h2⟩ := e.t P hP
    have n : P ≠ p := fun z => by rw [z, hp] at h1; cases h1
    exact ⟨ps, by rw [upd_ne n]; exact h1, h2⟩
/-- a comprehension over zip of two texts of one length -/
theorem lc_zipS {l m : List Nat} {g : TG} {tt : TT} {te : TE} {vs : List Nat} {σ : L2.St} {H1 : Hp} {D : Addr} {Qd : Hp → Prop} (hl : l.length = m.length) (Pv : Nat → Hp → Prop) (h0 : Pv 0 (upd H1 D (.lst [])))
    (hs : ∀ (i c d : Nat) (T : Addr) (H : Hp), l[i]? = some c → m[i]? = some d → Pv i H → H T = none → g (.ref T) (wipe σ vs) (upd H T (.tup [.str (SX.S [c]), .str (SX.S [d])])) fun σ2 H2 => wipe σ2 vs = wipe σ vs ∧ tt σ2 H2 fun b H3 =>
      if b = true then te σ2 H3 fun y H4 => ∃ acc, H4 D = some (.lst acc) ∧ acc.length < sizeLine ∧ Pv (i + 1) (upd H4 D (.lst (acc ++ [y]))) else Pv (i + 1) H3) (hd : ∀ H, Pv l.length H → Qd H) :
    ∃ W : Nat → Nat → Hp → Prop, (∃ m, W 0 m (upd H1 D (.lst []))) ∧ ∀ i n H, W i n H →
      ((ItzS (SX.S l) (SX.S m)).stop i H ∧ Qd H) ∨ ((ItzS (SX.S l) (SX.S m)).go i H ∧ ∃ Nx : Hp → Prop, (∀ H', Nx H' → ∃ m', m' < n ∧ W (i + 1) m' H') ∧ ∀ x H', (ItzS (SX.S l) (SX.S m)).yld i H x H' → g x (wipe σ vs) H' fun σ2 H2 => wipe σ2 vs = wipe σ vs ∧ tt σ2 H2 fun b H3 =>
        if b = true then te σ2 H3 fun y H4 => ∃ acc, H4 D = some (.lst acc) ∧ acc.length < sizeLine ∧ Nx (upd H4 D (.lst (acc ++ [y]))) else Nx H3) := by
  refine ⟨fun i n H => n = l.length - i ∧ i ≤ l.length ∧ Pv i H, ⟨l.length, rfl, Nat.zero_le _, h0⟩, ?_⟩
  rintro i n H ⟨rfl, hi, pv⟩
  by_cases lt : i < l.length
  · refine .inr ⟨⟨show i < l.length from lt, show i < m.length by omega⟩, Pv (i + 1), fun H' p' => ⟨l.length - (i + 1), by omega, rfl, lt, p'⟩, fun v H' y => ?_⟩
    obtain ⟨T, c, d, rfl, hT, hc, hd', rfl⟩ := y
    exact hs i c d T H (by rw [← hc]; simp [SX.S]) (by rw [← hd']; simp [SX.S]) pv hT
  · have e : i = l.length := by omega
    subst e
    exact .inl ⟨.inl rfl, hd H pv⟩
end WP

namespace WP
open PySem PySem.Spec PyProof.Rows L2
/-! ### a display of three pairs -/
theorem disp3 {σ : L2.St} {H : Hp} {Q : VK} {a b c : Str} {v u t : V} (n1 : ¬ a = b) (n2 : ¬ a = c) (n3 : ¬ b = c) (q : ∀ p, H p = none → Q (.ref p) (upd (upd H p (.dK [])) p (.dK [(.inr a, v), (.inr b, u), (.inr c, t)]))) : tDisp [(tC (.str a), tC v), (tC (.str b), tC u), (tC (.str c), tC t)] σ H Q := fun p hp =>
  ⟨upd_same, [(.inr a, v), (.inr b, u), (.inr c, t)], rfl, show 3 ≤ 15 by decide, by
    have e : mergeK [] [((Sum.inr a : Key), v), ((Sum.inr b : Key), u), ((Sum.inr c : Key), t)] = [((Sum.inr a : Key), v), ((Sum.inr b : Key), u), ((Sum.inr c : Key), t)] := by
      show putK (putK (putK ([] : List (Key × V)) (Sum.inr a) v) (Sum.inr b) u) (Sum.inr c) t = _
      have e1 : putK ([] : List (Key × V)) (Sum.inr a) v = [((Sum.inr a : Key), v)] := rfl
      have e2 : putK [((Sum.inr a : Key), v)] (Sum.inr b) u = [((Sum.inr a : Key), v), ((Sum.inr b : Key), u)] := by
        unfold putK
        rw [if_neg (by simp [n1])]
        rfl
      rw [e1, e2]
      unfold putK
      rw [if_neg (by simp [n2, n3])]
      rfl
    rw [e]; exact q p hp⟩
theorem valV3 {a b c d : List Nat} {v u t : V} : valV [((Sum.inr (SX.S a) : Key), v), ((Sum.inr (SX.S b) : Key), u), ((Sum.inr (SX.S c) : Key), t)] (Sum.inr (SX.S d)) = if a = d then some v else if b = d then some u else if c = d then some t else none := by
  by_cases h : a = d
  · subst h; rw [if_pos rfl]; exact valV_pos rfl
  · rw [if_neg h]; exact (valV_neg fun e => h (SX.S_inj (Sum.inr.inj e))).trans valV2
end WP

namespace WP
open PySem PySem.Spec PyProof.Rows L2
/-! ### own classes -/
structure ClsOk (K : PySem.W.Frag) (mg : MG) (nm : Str) (at' : List Str) : Prop where
  m : mg nm = some (.ref (ca mg nm))
  c : Cls K (ca mg nm)
  n : ∀ f ∈ at', NoAttr K (ca mg nm) f
theorem ClsOk.mk' {K : PySem.W.Frag} {mg : MG} {nm : Str} {at' : List Str} {C : Addr} (h : mg nm = some (.ref C)) (c : Cls K C) (n : ∀ f ∈ at', NoAttr K C f) : ClsOk K mg nm at' := by
  have e := ca_of h
  exact ⟨by rw [e]; exact h, by rw [e]; exact c, by rw [e]; exact n⟩
/-- a method that may be called -/
structure CalleeM (P : Program) (w : World) (K : PySem.W.Frag) (mg : MG) (base : Heap) (CX : CXT) (lv : Nat) (nm m : Str) (ps : List Str) (sp : Sp) : Prop where
  ex : ∃ (f : Addr) (fd : FuncData), FnOk P w K mg base CX lv f fd ps sp ∧ Meth K (ca mg nm) m f ∧ Binds K fd ps []
theorem CalleeM.mk' {P : Program} {w : World} {K : PySem.W.Frag} {mg : MG} {base : Heap} {CX : CXT} {lv : Nat} {nm m : Str} {ps : List Str} {sp : Sp} {C f : Addr} {fd : FuncData}
    (h : FnOk P w K mg base CX lv f fd ps sp) (hc : mg nm = some (.ref C)) (hm : Meth K C m f) (b : Binds K fd ps []) : CalleeM P w K mg base CX lv nm m ps sp := ⟨⟨f, fd, h, by rw [ca_of hc]; exact hm, b⟩⟩
/-- a class that may be made -/
structure CalleeI (P : Program) (w : World) (K : PySem.W.Frag) (mg : MG) (base : Heap) (CX : CXT) (lv : Nat) (nm : Str) (ps : List Str) (sp : Sp) : Prop where
  ex : ∃ (f : Addr) (fd : FuncData), FnOk P w K mg base CX lv f fd ps sp ∧ Mk K (ca mg nm) f ∧ Binds K fd ps []
theorem CalleeI.mk' {P : Program} {w : World} {K : PySem.W.Frag} {mg : MG} {base : Heap} {CX : CXT} {lv : Nat} {nm : Str} {ps : List Str} {sp : Sp} {C f : Addr} {fd : FuncData}
    (h : FnOk P w K mg base CX lv f fd ps sp) (hc : mg nm = some (.ref C)) (hm : Mk K C f) (b : Binds K fd ps []) : CalleeI P w K mg base CX lv nm ps sp := ⟨⟨f, fd, h, by rw [ca_of hc]; exact hm, b⟩⟩
section
variable {K : PySem.W.Frag} {σ : L2.St} {H : Hp} {Q : VK} {ta tv : TE} {t : TA} {f m : Str} {p C dx : Addr} {fs : List (Str × V)} {v : V} {D : Ends} {sp : Sp} {dvs : List V} {E : XK} {mg : MG} {nm : Str} {at' : List Str}
/-- steps -/
theorem fld (h : ta σ H fun x H1 => ∃ a C dx fs v, x = .ref a ∧ H1 a = some (.ins C dx fs) ∧ Cls K C ∧ NoAttr K C f ∧ fs.lookup f = some v ∧ Q v H1) : tFld K ta f σ H Q := h
theorem fldA (k : ClsOk K mg nm at') (hp : H p = some (.ins (ca mg nm) dx fs)) (hl : fs.lookup f = some v) (q : Q v H) (hm : f ∈ at' := by decide +kernel) :
    ∃ a C dx fs v, V.ref p = .ref a ∧ H a = some (.ins C dx fs) ∧ Cls K C ∧ NoAttr K C f ∧ fs.lookup f = some v ∧ Q v H := ⟨p, _, dx, fs, v, rfl, hp, k.c, k.n f hm, hl, q⟩
theorem sfld (h : tv σ H fun y H1 => ta σ H1 fun x H2 => ∃ a C dx fs, x = .ref a ∧ H2 a = some (.ins C dx fs) ∧ Cls K C ∧ NoAttr K C f ∧ fs.length < 1000 ∧ D.nx σ (upd H2 a (.ins C dx (putF f y fs)))) : sFld K ta tv f D σ H := h
theorem sfldA {R : Hp → Prop} (k : ClsOk K mg nm at') (hp : H p = some (.ins (ca mg nm) dx fs)) (hl : fs.length < 1000) (q : R (upd H p (.ins (ca mg nm) dx (putF f v fs)))) (hm : f ∈ at' := by decide +kernel) :
    ∃ a C dx fs, V.ref p = .ref a ∧ H a = some (.ins C dx fs) ∧ Cls K C ∧ NoAttr K C f ∧ fs.length < 1000 ∧ R (upd H a (.ins C dx (putF f v fs))) := ⟨p, _, dx, fs, rfl, hp, k.c, k.n f hm, hl, q⟩
theorem meth (h : ta σ H fun x H1 => ∃ a dx fs, x = .ref a ∧ H1 a = some (.ins C dx fs) ∧ fs.lookup m = none ∧ t σ H1 fun vs H2 => sp (x :: (vs ++ dvs)) H2 Q E) : tMeth C m sp dvs E ta t σ H Q := h
theorem methA {R : Hp → Prop} (hp : H p = some (.ins C dx fs)) (hl : fs.lookup m = none) (q : R H) : ∃ a dx fs, V.ref p = .ref a ∧ H a = some (.ins C dx fs) ∧ fs.lookup m = none ∧ R H := ⟨p, dx, fs, rfl, hp, hl, q⟩
theorem make (h : t σ H fun vs H1 => ∀ x dx, H1 x = none → H1 dx = none → dx ≠ x → sp (.ref x :: (vs ++ dvs)) (upd (upd H1 dx (.own x)) x (.ins C dx [])) (fun v H2 => v = .non ∧ Q (.ref x) H2) E) : tMake C sp dvs E t σ H Q := h
end
theorem same_made {H : Hp} {x dx C : Addr} (nx : H x = none) (nd : H dx = none) : Same H (upd (upd H dx (.own x)) x (.ins C dx [])) := fun b o e => by
  rw [upd_ne (ne_of_none e nx), upd_ne (ne_of_none e nd)]
  exact e
/-! ### list of a text -/
def rListS : List V → Hp → VK → Prop := fun xs H Q => ∃ l : List Nat, xs = [.str (SX.S l)] ∧ l.length ≤ sizeLine ∧ ∀ p, H p = none → Q (.ref p) (upd H p (.lst ((l.map fun c => SX.S [c]).map V.str)))
theorem signs_vals {l : List Nat} {acc : Array Value} (h : ItemsOf (SignAt (SX.S l)) acc (SX.S l).cps.size) : Vals ((l.map fun c => SX.S [c]).map V.str) acc.toList := by
  obtain ⟨h1, h2⟩ := h
  have hs : (SX.S l).cps.size = l.length := by simp [SX.S]
  rw [hs] at h1
  have g : ∀ (xs : List Nat) (us : List Value), xs.length = us.length → (∀ (j : Nat) (u : Value), us[j]? = some u → ∃ (c : Nat) (t : Tok), xs[j]? = some c ∧ u = .str ⟨#[c]⟩ t) → Vals ((xs.map fun c => SX.S [c]).map V.str) us := by
    intro xs
    induction xs with
    | nil =>
      intro us hl _
      have : us = [] := List.length_eq_zero_iff.mp hl.symm
      subst this
      exact .nil
    | cons x xs ih =>
      intro us hl hu
      match us, hl, hu with
      | u :: us, hl, hu =>
        obtain ⟨c, t, hc, rfl⟩ := hu 0 u rfl
        cases hc
        exact .cons ⟨t, rfl⟩ (ih us (by simpa using hl) fun j u' hj => hu (j + 1) u' hj)
  refine g l acc.toList (h1.symm.trans Array.length_toList.symm) fun j u hj => ?_
  rw [Array.getElem?_toList] at hj
  obtain ⟨c, t, hc, e⟩ := h2 j u hj
  refine ⟨c, t, ?_, e⟩
  rw [← hc]; simp [SX.S]
theorem c_listS {X : Cx} (hc : X.calm = true) : CallR X (.type "list") rListS := by
  intro pins s σ H xs us Q I r h
  obtain ⟨l, rfl, hl, q⟩ := h
  obtain ⟨u, rfl, rx⟩ := vals1 r
  obtain ⟨t, rfl⟩ := rx
  have hz : (SX.S l).cps.size ≤ sizeLine := by
    have : (SX.S l).cps.size = l.length := by simp [SX.S]
    omega
  refine call_list_str (I.ok.hd hc) (SX.S l) t (fun h' tk acc' c' kp e hit => ?_) hz
  refine ⟨.ref s.heap.objs.size, _, I.laid (t' := tk) kp (Nat.le_refl _) (show ObjOk X.prog X.w _ h' _ (.lst ((l.map fun c => SX.S [c]).map V.str)) from ⟨?_, acc'.toList, c', signs_vals hit, ?_⟩), rfl, q _ (I.hok.fresh (Nat.le_refl _))⟩
  · rw [List.length_map, List.length_map]; exact hl
  · exact e
theorem listS {l : List Nat} {H : Hp} {Q : VK} (hl : l.length ≤ sizeLine) (q : ∀ p, H p = none → Q (.ref p) (upd H p (.lst ((l.map fun c => SX.S [c]).map V.str)))) : rListS [.str (SX.S l)] H Q := ⟨l, rfl, hl, q⟩
/-! ### xs[a:b] = ys -/
def gSl (to : TE) (tl th : TO) : TG := fun v σ H QS => to σ H fun o H1 => tl σ H1 fun a H2 => th σ H2 fun c H3 => ∃ (p b : Addr) (xs ys : List V) (i j : Int), o = .ref p ∧ a = some i ∧ c = some j ∧ v = .ref b ∧ H3 p = some (.lst xs) ∧ H3 b = some (.lst ys) ∧ p ≠ b ∧ 0 ≤ i ∧ i ≤ j ∧ j ≤ xs.length ∧ xs.length + ys.length ≤ sizeLine ∧
  QS σ (upd H3 p (.lst (xs.take i.toNat ++ ys ++ xs.drop j.toNat)))
theorem pg_sl {X : Cx} {o : Expr} {lo hi : Option Expr} {p2 pos : Pos} {to : TE} {tl th : TO} (ho : PE X o to) (hl : PO X lo tl) (hu : PO X hi th)
    (ha : ∀ v, assign (.Subscript o (.Slice lo hi none p2) pos) X.env v = (do
      let q ← holding [v] (eval o X.env)
      let z ← holding [v, q] (eval (.Slice lo hi none p2) X.env)
      standAt pos
      holding [v, q, z] (setItem q z v)
      release [z, v, q] []) := by intro _; rfl) : PG X (.Subscript o (.Slice lo hi none p2) pos) (gSl to tl th) := by
  refine ⟨fun pins s σ H v u Q I r h => ?_⟩
  rw [ha]
  refine wpAny_bind (wpAny_holding (thn (ho.run pins s σ H _ I h) fun ov s1 ⟨x, H1, I1, r1, q1⟩ => ?_))
  refine wpAny_bind (wpAny_holding (wpAny_Slice (thn (hl.run pins s1 σ H1 _ I1 q1) fun vl s2 ⟨l, H2, I2, pl, q2⟩ => thn (hu.run pins s2 σ H2 _ I2 q2) fun vu s3 ⟨w, H3, I3, pu, q3⟩ => ?_)))
  rw [evalPart_none]
  refine wpAny_pure ?_
  obtain ⟨p, b, xs, ys, i, j, e1, e2, e3, e4, h1, h2, n, b0, b1, b2, hz, q⟩ := q3
  subst e1 e2 e3 e4
  have I4 : Inv X pins σ H3 { s3 with heap := s3.heap.push { cls := .type "slice", data := .fields #[vl, vu, .none] } } := I3.kept (t' := s3.toks) fun _ _ e => Heap.get?_push_of_some _ e
  cases r1
  cases r
  have ri : RelV (.int i) vl := by cases pl; exact ⟨_, rfl⟩
  have rj : RelV (.int j) vu := by cases pu; exact ⟨_, rfl⟩
  refine wpAny_bind (wpAny_standAt (wpAny_bind (wpAny_holding (set_slice I4 h1 h2 n (Heap.IsSliceOf.new ..) ri rj b0 b1 b2 hz fun s' I5 => ?_))))
  exact wpAny_release ⟨σ, _, I5, q⟩
theorem gsl {to : TE} {tl th : TO} {v : V} {σ : L2.St} {H : Hp} {QS : L2.St → Hp → Prop} (h : to σ H fun o H1 => tl σ H1 fun a H2 => th σ H2 fun c H3 => ∃ (p b : Addr) (xs ys : List V) (i j : Int), o = .ref p ∧ a = some i ∧ c = some j ∧ v = .ref b ∧ H3 p = some (.lst xs) ∧ H3 b = some (.lst ys) ∧ p ≠ b ∧ 0 ≤ i ∧ i ≤ j ∧ j ≤ xs.length ∧ xs.length + ys.length ≤ sizeLine ∧
  QS σ (upd H3 p (.lst (xs.take i.toNat ++ ys ++ xs.drop j.toNat)))) : gSl to tl th v σ H QS := h
/-- a list's slice -/
theorem slL {K : PySem.W.Frag} {p : Addr} {xs : List V} {lo hi : Option Int} {H : Hp} {Q : VK} (h : SqL K H p xs) (q : ∀ a, H a = none → Q (.ref a) (upd H a (.lst (cutV xs lo hi)))) : rSlL K (.ref p) lo hi H Q := ⟨p, xs, rfl, h, q⟩
theorem cut_nat {xs : List V} {i j : Nat} (h : i ≤ j) (hj : j ≤ xs.length) : cutV xs (some (i : Int)) (some (j : Int)) = (xs.drop i).take (j - i) := by
  have e1 : HT.sIx xs.length 0 (some (i : Int)) = i := by
    show (if (i : Int) < 0 then ((i : Int) + (xs.length : Int)).toNat else min (i : Int).toNat xs.length) = i
    rw [if_neg (by omega)]; omega
  have e2 : HT.sIx xs.length xs.length (some (j : Int)) = j := by
    show (if (j : Int) < 0 then ((j : Int) + (xs.length : Int)).toNat else min (j : Int).toNat xs.length) = j
    rw [if_neg (by omega)]; omega
  unfold cutV
  rw [e1, e2]
/-- all(xs) -/
theorem allL {K : PySem.W.Frag} {p : Addr} {bs : List Bool} {H : Hp} {Q : VK} (h : SqL K H p (bs.map V.bl)) (q : Q (.bl (bs.all _root_.id)) H) : rAll K [.ref p] H Q := ⟨p, bs, rfl, h, q⟩
theorem lookS {f : Str} {v : V} : List.lookup f [(f, v)] = some v := by
  show (match f == f with | true => some v | false => _) = some v
  rw [beq_self_eq_true]
section
variable {K : PySem.W.Frag} {σ : L2.St} {H : Hp} {Q : VK} {ta : TE} {f m : Str} {p dx C : Addr} {fs : List (Str × V)} {v : V} {mg : MG} {nm : Str} {at' : List Str} {i : Nat} {sp : Sp} {dvs : List V} {E : XK} {t : TA}
theorem fldV (k : ClsOk K mg nm at') (hv : σ[i]? = some (some (.ref p))) (hp : H p = some (.ins (ca mg nm) dx fs)) (hl : fs.lookup f = some v) (hm : f ∈ at') (q : Q v H) : tFld K (tVar i) f σ H Q := ⟨.ref p, hv, p, _, dx, fs, v, rfl, hp, k.c, k.n f hm, hl, q⟩
theorem fldG (k : ClsOk K mg nm at') (hm : f ∈ at') (q : ta σ H fun x H1 => ∃ p dx fs v, x = .ref p ∧ H1 p = some (.ins (ca mg nm) dx fs) ∧ fs.lookup f = some v ∧ Q v H1) (mono : ∀ (R R' : VK), (∀ x H, R x H → R' x H) → ta σ H R → ta σ H R') : tFld K ta f σ H Q :=
  mono _ _ (fun x H1 ⟨p, dx, fs, v, e, hp, hl, q⟩ => ⟨p, _, dx, fs, v, e, hp, k.c, k.n f hm, hl, q⟩) q
theorem methV (hv : σ[i]? = some (some (.ref p))) (hp : H p = some (.ins C dx fs)) (hl : fs.lookup m = none) (q : t σ H fun vs H2 => sp (.ref p :: (vs ++ dvs)) H2 Q E) : tMeth C m sp dvs E (tVar i) t σ H Q := ⟨.ref p, hv, p, dx, fs, rfl, hp, hl, q⟩
end
end WP

namespace WP
open PySem PySem.Spec PyProof.Rows L2
/-! ### exceptions with an own __init__ that stores fields -/
structure ExiOk (K : PySem.W.Frag) (mg : MG) (nm : Str) (ats : List Str) : Prop where
  m : mg nm = some (.ref (ca mg nm))
  o : OexC K (ca mg nm)
  x : XfC K (ca mg nm)
  n : ∀ f ∈ ats, PySem.W.findIn K (.ref (ca mg nm)) f = some none
  c : ExcC K (ca mg nm)
theorem ExiOk.mk' {K : PySem.W.Frag} {mg : MG} {nm : Str} {C : Addr} {ats : List Str} (h : mg nm = some (.ref C)) (o : OexC K C) (x : XfC K C) (n : ∀ f ∈ ats, PySem.W.findIn K (.ref C) f = some none) (c : ExcC K C) : ExiOk K mg nm ats := by
  have e := ca_of h
  exact ⟨by rw [e]; exact h, by rw [e]; exact o, by rw [e]; exact x, by rw [e]; exact n, by rw [e]; exact c⟩
theorem ExiOk.catches {K : PySem.W.Frag} {mg : MG} {nm : Str} {ats : List Str} (x : ExiOk K mg nm ats) {cls : Value} {b : Bool} (h : PySem.W.subIn K cls (.ref (ca mg nm)) = some b) : PySem.W.exmOne K cls (.ref (ca mg nm)) = some b := PySem.W.exm_ref x.o.exC x.x.hdC x.o.tyC h
structure CalleeE (P : Program) (w : World) (K : PySem.W.Frag) (mg : MG) (base : Heap) (CX : CXT) (lv : Nat) (nm : Str) (ps : List Str) (sp : Sp) : Prop where
  ex : ∃ (f : Addr) (fd : FuncData), FnOk P w K mg base CX lv f fd ps sp ∧ PySem.W.findIn K (.ref (ca mg nm)) "__init__" = some (some (.ref f)) ∧ PySem.W.typeIn K (.ref f) = some (.type "function") ∧ Binds K fd ps []
theorem CalleeE.mk' {P : Program} {w : World} {K : PySem.W.Frag} {mg : MG} {base : Heap} {CX : CXT} {lv : Nat} {nm : Str} {ps : List Str} {sp : Sp} {C f : Addr} {fd : FuncData}
    (h : FnOk P w K mg base CX lv f fd ps sp) (hc : mg nm = some (.ref C)) (hi : PySem.W.findIn K (.ref C) "__init__" = some (some (.ref f))) (ht : PySem.W.typeIn K (.ref f) = some (.type "function")) (b : Binds K fd ps []) : CalleeE P w K mg base CX lv nm ps sp := ⟨⟨f, fd, h, by rw [ca_of hc]; exact hi, ht, b⟩⟩
section
variable {X : Cx} {x : Str} {e : Expr} {es : List Expr} {ta : TA} {p pos pos2 : Pos} {W : WX} {CX : CXT} {k : Nat} {ps : List Str} {sp : Sp} {ats : List Str}
theorem ps_raiseE (hc : X.calm = true) (tk : Takes X W) (o : ExiOk X.K X.mg x ats) (c : CalleeE X.prog X.w X.K X.mg X.base CX k x ps sp) (hr : Room (k + 1) X.A) (hx : Passes CX X (fun _ _ _ => False)) (hg : Gl X x) (ha : PA X (e :: es) ta)
    (nd : (x == ("__debug__" : Str)) = false := by decide) (sh : starEach (e :: es) X.env = (false, eval e X.env) :: starEach es X.env := by rfl) (sp1 : (backTo pos (starEach es X.env)).any (·.1) = false := by rfl) :
    PS X (.Raise (some (.Call (.Name x p) (e :: es) [] pos)) none pos2) (fun _ σ H => tMkO (ca X.mg x) sp [] ta σ H fun cls d H' => W cls d σ H') := by
  obtain ⟨f, fd, F, hi, ht, b⟩ := c.ex
  exact ps_raise hc tk (pmk_oex o.o hi ht F hr b .nil hx hg o.m ha nd sh sp1)
end
end WP
namespace WP
open PySem PySem.Spec PyProof.Rows L2
/-- what a store into self asks behind its value y and its object z -/
def OstQ (K : PySem.W.Frag) (f : Str) (D : Ends) (σ : L2.St) (y z : V) (G : Hp) : Prop :=
  ∃ b B : Addr, z = .ref b ∧ OexC K B ∧ PySem.W.findIn K (.ref B) f = some none ∧ ((G b = some (exo b B none) ∧ ∀ dy, G dy = none → dy ≠ b → D.nx σ (upd (upd G dy (exd dy [(f, y)])) b (exo b B (some dy)))) ∨
    ∃ (dy : Addr) (gs : List (Str × V)), G b = some (exo b B (some dy)) ∧ G dy = some (exd dy gs) ∧ gs.length ≤ 900 ∧ D.nx σ (upd G dy (exd dy ((f, y) :: gs))))
theorem ost {K : PySem.W.Frag} {f : Str} {to te : TE} {D : Ends} {σ : L2.St} {H : Hp} (h : te σ H fun y H1 => to σ H1 fun z G => OstQ K f D σ y z G) : tOst K f to te D σ H := h
end WP
namespace WP
open PySem PySem.Spec PyProof.Rows L2
theorem mko {C : Addr} {sp : Sp} {dvs : List V} {ta : TA} {σ : L2.St} {H : Hp} {Q : XK} (h : ta σ H fun vs H1 => vs.length ≤ 1000 ∧ ∀ a, H1 a = none → sp (.ref a :: (vs ++ dvs)) (upd H1 a (exo a C none))
  (fun v H2 => v = .non ∧ ∃ (d : Addr) (fs : List (Str × V)), H2 a = some (exo a C (some d)) ∧ H2 d = some (exd d fs) ∧ H1 d = none ∧ Q (.ref C) (some d) (upd (del H2 a) d (.xd fs))) (fun _ _ _ => False)) : tMkO C sp dvs ta σ H Q := h
end WP

namespace WP
open PySem PySem.Spec PyProof.Rows L2
/-- isinstance of a caught error that has fields -/
def rIsS (K : PySem.W.Frag) (a : Addr) (cls : Value) (d : Option Addr) : List V → Hp → VK → Prop := fun xs H Q =>
  ∃ (D dd : Addr) (fs : List (Str × V)), cls = .ref D ∧ d = some dd ∧ H dd = some (.xd fs) ∧ ExcC K D ∧ rIsE K D a xs H Q
theorem call_isS {X : Cx} {a : Addr} {ob : Obj} {cls : Value} {d : Option Addr} {pn : List (Addr × Obj)} (hz : Zc cls d ob) (hf : ∃ vs, ob.data = .fields vs) : CallR (X.suite a ((a, ob) :: pn)) (.builtin "isinstance") (rIsS X.K a cls d) := by
  intro pins s σ H xs us Q I r h
  obtain ⟨D, dd, fs, rfl, rfl, hd, C, c, cv, b, rfl, hcv, e, q⟩ := h
  cases r with
  | cons rx r1 =>
    cases r1 with
    | cons rt r2 =>
      cases r2
      cases rx
      obtain rfl := hcv _ rt
      have pin := I.pin (a, ob) (List.mem_append.mpr (.inl List.mem_cons_self))
      obtain ⟨vs, hv⟩ := hf
      have xd : ObjOk X.prog X.w H s.heap dd (.xd fs) := I.hok dd _ hd
      obtain ⟨mA, hns, hr⟩ := xd
      obtain ⟨od, ho, hl⟩ := lookIn_ns hns
      have J : PySem.W.InstAt s.heap a ob D (some od) := ⟨pin.1, hz.1, by unfold PySem.W.notCls; rw [hv] <;> rfl, by rw [hz.2]; exact ho⟩
      have hcl : (PySem.W.clsIn X.K D).isSome = true := by
        obtain ⟨cd, hc, _⟩ := PySem.W.any_some C.hd
        rw [hc]; rfl
      exact PySem.W.kia_one (PySem.W.kitx_exc hcl C.hg C.hk C.hs C.ha C.hn C.ht C.hm) I.kIn J e (fun z => nomatch z) fun tk => ⟨.bl b, H, I.kept (t' := tk) fun _ _ z => z, rfl, q⟩
theorem isS {K : PySem.W.Frag} {a D C dd : Addr} {fs : List (Str × V)} {b : Bool} {H : Hp} {Q : VK} (c : ExcC K D) (hd : H dd = some (.xd fs)) (h : PySem.W.kitOne K (.ref D) (.ref C) = some b) (q : Q (.bl b) H) : rIsS K a (.ref D) (some dd) [.ref a, .ref C] H Q :=
  ⟨D, dd, fs, rfl, rfl, hd, c, .ref C, .ref C, b, rfl, fun _ r => r, h, q⟩
theorem isST {K : PySem.W.Frag} {a D dd : Addr} {n : String} {fs : List (Str × V)} {b : Bool} {H : Hp} {Q : VK} (c : ExcC K D) (hd : H dd = some (.xd fs)) (h : PySem.W.kitOne K (.ref D) (.type n) = some b) (q : Q (.bl b) H) : rIsS K a (.ref D) (some dd) [.ref a, .ty n] H Q :=
  ⟨D, dd, fs, rfl, rfl, hd, c, .ty n, .type n, b, rfl, fun _ r => r, h, q⟩
end WP

namespace WP
open PySem PySem.Spec PyProof.Rows L2
/-! ### raising, with the context kept; calls in an except suite -/
theorem okN {P : Program} {w : World} {K : PySem.W.Frag} {mg : Str → Option Value} {base : Heap} {x qual : Str} {st : Stmt} {f : Addr} {fd : FuncData} {N ps : List Str} {k : Nat} {sp : Sp} (F : Fun K x qual st f fd) (S : FnScope N ps (defScope st)) (len : ∀ vs H Q E, sp vs H Q E → vs.length = ps.length)
    (hbody : ∀ (cdv : Value) (A : Around) (outer : List Env) (s : Shared) (H : Hp) (vs : List V) (Q : VK) (E : XK), Room k (A.deeper (envOfC qual (defScope st) s.heap.objs.size f cdv)) → sp vs H Q E →
      ∃ t, PSs (cxOf (L2N.CX P w) P w K mg base N qual (defScope st) f cdv A outer s H E) (defBody st) t ∧ t { nx := fun _ H' => Q .non H', rt := Q } (start N vs) H) : FnOk P w K mg base (L2N.CX P w) (k + 1) f fd ps sp := by
  obtain ⟨oc, od, kV, doc, pm, an, cdv, ct, osl, rfl, lk, hcd⟩ := F.ex
  exact fn_of lk hcd S len fun A outer s H vs Q E hr hsp => hbody cdv A outer s H vs Q E hr hsp
theorem takes0N {X : Cx} : L2N.Takes X (fun _ _ _ _ => False) := fun _ _ x => by
  obtain ⟨_, _, _, _, _, _, _, _, _, _, _, _, _, _, _, _, z⟩ := x
  exact z.elim
section
variable {X : Cx} {x : Str} {e : Expr} {es : List Expr} {ta : TA} {te : TE} {t : TA} {p pos pos2 : Pos} {W : WX} {CX : CXT} {k j : Nat} {ps : List Str} {sp : Sp} {ats : List Str}
theorem pmkN_oex (o : ExiOk X.K X.mg x ats) (c : CalleeE X.prog X.w X.K X.mg X.base CX k x ps sp) (hr : Room (k + 1) X.A) (hx : Passes CX X (fun _ _ _ => False)) (hg : Gl X x) (ha : PA X (e :: es) ta)
    (hdb : (x == ("__debug__" : Str)) = false := by decide) (he : starEach (e :: es) X.env = (false, eval e X.env) :: starEach es X.env := by rfl) (hpl : (backTo pos (starEach es X.env)).any (·.1) = false := by rfl) :
    L2N.PMk X (.Call (.Name x p) (e :: es) [] pos) (tMkO (ca X.mg x) sp [] ta) := by
  obtain ⟨fI, fd, F1, iC, tI, hb⟩ := c.ex
  intro pins s σ H Q I h
  obtain ⟨nm, q, N, bs, bm, sn, sub, ab, col, dd, k0, k1, k2, k3, k5, hC, hbm⟩ := o.o.cls
  refine wpAny_Call_Name_kw (ld_glob I hg o.m ?_ hdb)
  refine PySem.W.callWith_K (h₀ := X.base) I.ok.mod.kin o.o.kC (thn (ha.run pos pins s σ H _ I h) fun us s1 ⟨vs, H1, I1, r1, hz, q1⟩ => ⟨I1.kIn, ?_⟩) he hpl
  show wpAny _ _ (PySem.call (.ref (ca X.mg x)) us) _ _ _
  obtain ⟨hp, g, dr, tk, os⟩ := s1
  have hsz : hp.objs.size ≤ hp.objs.size + 1 := Nat.le_succ _
  have hn : H1 (hp.objs.size + 1) = none := I1.hok.fresh hsz
  have hq := q1 (hp.objs.size + 1) hn
  have kk : ∀ b o, hp.get? b = some o → ((hp.push (PySem.W.kdv_tup us)).push (PySem.HandSPX.excO (ca X.mg x) hp.objs.size)).get? b = some o := fun b o e => Heap.get?_push_of_some _ (Heap.get?_push_of_some _ e)
  have hget : ((hp.push (PySem.W.kdv_tup us)).push (PySem.HandSPX.excO (ca X.mg x) hp.objs.size)).get? (hp.objs.size + 1) = some (PySem.HandSPX.excO (ca X.mg x) hp.objs.size) := by heap_get
  have I2 : Inv X pins σ (upd H1 (hp.objs.size + 1) (exo (hp.objs.size + 1) (ca X.mg x) none)) ⟨(hp.push (PySem.W.kdv_tup us)).push (PySem.HandSPX.excO (ca X.mg x) hp.objs.size), g, dr, tk, os⟩ :=
    I1.laid (t' := tk) (a := hp.objs.size + 1) (o := exo (hp.objs.size + 1) (ca X.mg x) none) (h' := (hp.push (PySem.W.kdv_tup us)).push (PySem.HandSPX.excO (ca X.mg x) hp.objs.size)) kk hsz (exo_ok hget)
  have r3 : Vals (V.ref (hp.objs.size + 1) :: (vs ++ [])) (Value.ref (hp.objs.size + 1) :: us) := by rw [List.append_nil]; exact .cons rfl r1
  have hl : (Value.ref (hp.objs.size + 1) :: us ++ []).length = ps.length := by
    have e := r3.length
    rw [F1.len _ _ _ _ hq] at e
    rw [List.append_nil]
    exact e.symm
  have hus : us.length ≤ sizeLine := by
    rw [← Paired.length r1, sizeLine_eq]
    omega
  have b2 := hb ⟨(hp.push (PySem.W.kdv_tup us)).push (PySem.HandSPX.excO (ca X.mg x) hp.objs.size), g, dr, tk, os⟩ (Value.ref (hp.objs.size + 1) :: us) I2.kIn hl
  rw [List.append_nil] at b2
  refine wpAny_call (PySem.HandSPX.call_own PySem.F.excBase_ValueError (fun Y => PySem.HandSPX.refsVE_contains Y bm hbm) (I1.kIn _ _ hC) (PySem.W.looks_findIn I1.kIn iC) (fun self => PySem.W.bind_fn I1.kIn self tI) hus
    (codeAny_mono (F1.run _ X.stack _ _ ⟨Value.ref (hp.objs.size + 1) :: us, []⟩ (Value.ref (hp.objs.size + 1) :: us) _ _ (fun _ _ _ => False) (hr.make (ca X.mg x) us []) (I2.env0.make (ca X.mg x) us []) b2 r3 hq) fun r s' hq' => ?_))
  cases r with
  | error er => exact hx pins σ _ _ er s' I2 hq'
  | ok fl =>
    cases fl with
    | ret u =>
      obtain ⟨v, H2, os2, bare2, un2, hok2, rv, ev, d, fs, ea, ed, hd1, q2⟩ := hq'
      subst ev
      obtain ⟨h2, g2, d2, t2, os'⟩ := s'
      obtain ⟨t0, G, J, kG, ge, hoe, na⟩ := mk_end0 (d2 := d2) (t2 := t2) I1 hsz kk un2 hok2 os2 bare2 ea ed hd1
      refine ⟨rv, hp.objs.size + 1, _, _, ⟨G, g2, d2, t2, os'⟩, _, .ref (ca X.mg x), some d, rfl, J, kG, ge, hoe, ⟨rfl, rfl, fun vs hv => ?_⟩, rfl, rfl, na, rfl, bare2, raises_own o.o.exC o.o.tyC, q2⟩
      cases hv
      rfl
    | next => exact False.elim hq'
    | brk => exact False.elim hq'
    | cont => exact False.elim hq'
theorem ps_raiseN (hc : X.calm = true) (tk : L2N.Takes X W) (o : ExiOk X.K X.mg x ats) (c : CalleeE X.prog X.w X.K X.mg X.base CX k x ps sp) (hr : Room (k + 1) X.A) (hx : Passes CX X (fun _ _ _ => False)) (hg : Gl X x) (ha : PA X (e :: es) ta)
    (nd : (x == ("__debug__" : Str)) = false := by decide) (sh : starEach (e :: es) X.env = (false, eval e X.env) :: starEach es X.env := by rfl) (sp1 : (backTo pos (starEach es X.env)).any (·.1) = false := by rfl) :
    PS X (.Raise (some (.Call (.Name x p) (e :: es) [] pos)) none pos2) (fun _ σ H => tMkO (ca X.mg x) sp [] ta σ H fun cls d H' => W cls d σ H') :=
  L2N.ps_raise hc tk (pmkN_oex o c hr hx hg ha nd sh sp1)
theorem passN {E : XK} {E₁ : Value → Shared → Prop} (hs : X.stack = X.env :: X.outer) (hf : X.env.frame = some X.env.locals) (hex : X.ex = [])
    (hx : X.xe = fun e s' => wpAny (model X.prog X.w) X.A (leaving X.env e) (fun _ s'' => L2N.CX X.prog X.w X.outer X.H_0 X.s_0 E e s'') E₁ s') : Passes (L2N.CX X.prog X.w) X E :=
  fun pins σ H s e s' I c => L2N.passes_call (L2N.takes_of hs hf hex hx) (fun _ _ _ _ z => z) pins σ H s e s' I c
theorem pass0N : Passes (L2N.CX X.prog X.w) X (fun _ _ _ => False) := fun pins σ H s e s' I c => L2N.passes_call (W := fun _ _ _ _ => False) takes0N (fun _ _ _ _ z => z) pins σ H s e s' I c
theorem pe_callSN {E : L2.St → XK} (C : Callee X.prog X.w X.K X.mg X.base (L2N.CX X.prog X.w) k x ps sp) (hr : Room j X.A) (hg : Gl X x) (hx : ∀ σ, PassesAt (L2N.CX X.prog X.w) X σ (E σ)) (ha : PA X (e :: es) t) (hl : k ≤ j := by decide)
    (hdb : (x == ("__debug__" : Str)) = false := by decide) (he : starEach (e :: es) X.env = (false, eval e X.env) :: starEach es X.env := by rfl) (hpl : (backTo pos (starEach es X.env)).any (·.1) = false := by rfl) :
    PE X (.Call (.Name x p) (e :: es) [] pos) (tCallS sp E t) := by
  obtain ⟨f, fd, F, hm, hk, hb⟩ := C.ex
  exact pe_callS F (hr.mono hl) hg hm hk hb hx ha hdb he hpl
/-! ### a def that is called while an exception is handled -/
structure CalleeH (P : Program) (w : World) (K : PySem.W.Frag) (mg : Str → Option Value) (base : Heap) (CX : CXT) (lv : Nat) (nm : Str) (ps : List Str) (sp : Sp) : Prop where
  ex : ∃ (f : Addr) (fd : FuncData), L2H.FnH P w K mg base CX lv f fd ps sp ∧ mg nm = some (.ref f) ∧ PySem.W.keepIn K (.ref f) = true ∧ Binds K fd ps []
theorem CalleeH.mk' {P : Program} {w : World} {K : PySem.W.Frag} {mg : Str → Option Value} {base : Heap} {CX : CXT} {lv : Nat} {nm : Str} {ps : List Str} {sp : Sp} {f : Addr} {fd : FuncData}
    (h : L2H.FnH P w K mg base CX lv f fd ps sp) (m : mg nm = some (.ref f)) (k : PySem.W.keepIn K (.ref f) = true) (b : Binds K fd ps []) : CalleeH P w K mg base CX lv nm ps sp := ⟨⟨f, fd, h, m, k, b⟩⟩
theorem hotS {a : Addr} {oe : Obj} {cls : Value} {d : Option Addr} {pn : List (Addr × Obj)} (hz : L2N.Zn cls d oe) (hf : ∃ vs, oe.data = .fields vs) : L2H.HotC (X.suite a ((a, oe) :: pn)) := by
  obtain ⟨vs, hv⟩ := hf
  exact ⟨(a, oe), ⟨rfl, vs, hv, hz.2.2 vs hv⟩, List.mem_cons_self⟩
theorem pe_callHC (C : CalleeH X.prog X.w X.K X.mg X.base CX0 k x ps sp) (hr : L2H.RoomH j X.A) (hc : L2H.HotC X) (hg : Gl X x) (ha : PA X (e :: es) t) (hl : k ≤ j := by decide)
    (hdb : (x == ("__debug__" : Str)) = false := by decide) (he : starEach (e :: es) X.env = (false, eval e X.env) :: starEach es X.env := by rfl) (hpl : (backTo pos (starEach es X.env)).any (·.1) = false := by rfl) :
    PE X (.Call (.Name x p) (e :: es) [] pos) (tCall sp [] E0 t) := by
  obtain ⟨f, fd, F, hm, hk, hb⟩ := C.ex
  have h := L2H.pe_callH (q := p) (pos := pos) (E := fun _ => E0) F (hr.mono hl) hc hg hm hk hb (fun σ pins H s e s' I c => (show False from c).elim) ha hdb he hpl
  have e : tCallS sp (fun _ => E0) t = tCall sp [] E0 t := by
    funext σ H Q
    show (t σ H fun vs H1 => sp vs H1 Q E0) = (t σ H fun vs H1 => sp (vs ++ []) H1 Q E0)
    simp only [List.append_nil]
  rw [← e]; exact h
theorem huH {X : Cx} {k : Nat} (hr : L2H.RoomH k X.A) : X.A.units + 64 < cLine := by have := hr.un; omega
end
theorem okH {P : Program} {w : World} {K : PySem.W.Frag} {mg : Str → Option Value} {base : Heap} {x qual : Str} {st : Stmt} {f : Addr} {fd : FuncData} {N ps : List Str} {k : Nat} {sp : Sp} (F : Fun K x qual st f fd) (S : FnScope N ps (defScope st)) (len : ∀ vs H Q E, sp vs H Q E → vs.length = ps.length)
    (hbody : ∀ (cdv : Value) (A : Around) (outer : List Env) (s : Shared) (H : Hp) (vs : List V) (Q : VK) (E : XK) (p : Addr × Obj), L2H.HotC (L2H.cxH CX0 P w K mg base N qual (defScope st) f cdv A outer s H E p) → L2H.RoomH k (A.deeper (envOfC qual (defScope st) s.heap.objs.size f cdv)) → sp vs H Q E →
      ∃ t, PSs (L2H.cxH CX0 P w K mg base N qual (defScope st) f cdv A outer s H E p) (defBody st) t ∧ t { nx := fun _ H' => Q .non H', rt := Q } (start N vs) H) : L2H.FnH P w K mg base CX0 (k + 1) f fd ps sp := by
  obtain ⟨oc, od, kV, doc, pm, an, cdv, ct, osl, rfl, lk, hcd⟩ := F.ex
  exact L2H.fn_ofH lk hcd S len fun A outer s H vs Q E p hot hr hsp => hbody cdv A outer s H vs Q E p ⟨p, hot, List.mem_cons_self⟩ hr hsp
end WP

namespace WE1
open PySem PySem.Spec PyProof.Rows L2
/-! ### enumerate(list, start=1) -/
theorem apart_l {h : Heap} {li l : Addr} {n : Nat} {vs : Array Value} (a : h.IsListIter li l n) (b : h.IsList l vs) : l ≠ li := fun z => by
  obtain ⟨u, hu, uc, _⟩ := a
  obtain ⟨o, ho, oc, _⟩ := b
  rw [z, hu] at ho
  cases ho
  rw [uc] at oc
  exact absurd oc (by decide)
theorem draws_l {prog : Program} {w : World} {A : Around} (hh : A.handled = none) (li l : Addr) (vs : Array Value) : Draws prog w A li [li, l] vs.size (fun n u => vs[n]? = some u) (fun n h => h.IsListIter li l n ∧ h.IsList l vs) where
  live := fun n h st => by
    obtain ⟨⟨u, hu, _⟩, _⟩ := st
    exact ⟨u, hu⟩
  frame := fun n h h2 st kp => ⟨st.1.at fun u q => kp li List.mem_cons_self u q, st.2.at fun u q => kp l (by simp) u q⟩
  item := fun n s Q E lt st q => by
    have ap := apart_l st.1 st.2
    refine wpAny_nextOf_list_item st.1 st.2 (Array.getElem?_eq_getElem lt) fun h2 i2 sb => q _ h2 _ (Array.getElem?_eq_getElem lt) ⟨i2, st.2.at fun u z => ?_⟩ sb
    rw [sb.2 l ap]; exact z
  done := fun s Q E st q => wpAny_nextOf_list_end hh st.1 st.2 (Array.getElem?_eq_none (Nat.le_refl _)) q
def Itn (K : PySem.W.Frag) (a : Addr) : It where
  go := fun n G => ∃ (ys : List V) (y : V), SqL K G a ys ∧ ys[n]? = some y
  yld := fun n G v G' => ∃ N y, v = .ref N ∧ G N = none ∧ G' = upd G N (.tup [.int ((n + 1 : Nat) : Int), y]) ∧ ∀ ys, SqL K G a ys → ys[n]? = some y
  stop := fun n G => ∃ ys : List V, SqL K G a ys ∧ ys.length = n
theorem turn1 {P : Program} {w : World} {K : PySem.W.Frag} {els : List Expr} {kd : Nat} {tp : Pos} (a en li : Addr) :
    Turn P w K (.Tuple els kd tp) (Itn K a) [en, li] en (fun n h => (∃ pr, IsEnum h en li ((n + 1 : Nat) : Int) pr) ∧ h.IsListIter li a n ∧ en ≠ li) where
  mem := List.mem_cons_self
  obj := fun n h ⟨⟨pr, hE⟩, ⟨u, hu, uc, ud⟩, _⟩ b hb => by
    have cs : b = en ∨ b = li := by simpa using hb
    rcases cs with rfl | rfl
    · exact ⟨_, hE, fun v q => nomatch q⟩
    · exact ⟨u, hu, fun v q => by rw [ud] at q; cases q⟩
  keep := fun n h h2 ⟨⟨pr, hE⟩, hI, ne⟩ kp => ⟨⟨pr, kp en List.mem_cons_self _ hE⟩, hI.at fun u q => kp li (by simp) u q, ne⟩
  item := by
    intro X h1 h2 h3 hc n pins s σ G E I free st hg
    subst h1 h2 h3
    obtain ⟨⟨pr, hE⟩, hI, ne⟩ := st
    obtain ⟨ys, y, sq, hy⟩ := hg
    obtain ⟨vs, rv, pl, sz⟩ := I.list sq
    obtain ⟨u, hu, ru⟩ := rv.get hy
    have le : en < s.heap.objs.size := Heap.lt_size hE
    have ll : li < s.heap.objs.size := by
      obtain ⟨_, q, _⟩ := hI
      exact Heap.lt_size q
    have D := draws_l (prog := X.prog) (w := X.w) (A := X.A.in1) (I.ok.hd hc) li a vs.toArray
    have ne2 : en ≠ a := fun z => by
      obtain ⟨o, ho, oc, _⟩ := pl.isList
      rw [← z, hE] at ho
      cases ho
      exact absurd (show Value.type "enumerate" = Value.type "list" from oc) (by decide)
    have lt : n < vs.toArray.size := by
      have := (List.getElem?_eq_some_iff.mp hu).1
      simpa using this
    refine wpAny_pyNext_enum_itemC D hE ⟨hI, pl.isList⟩ lt ne (by simp [ne, ne2]) fun u' hp2 tk hu' ho hI2' hN hz hk => ?_
    obtain rfl : u = u' := by
      have : vs[n]? = some u' := by simpa using hu'
      rw [hu] at this
      exact Option.some.inj this
    have hI2 := hI2'.1
    refine ⟨_, rfl, wpAny_letOwnedTupleGo_enum (s := { s with heap := hp2, toks := tk + 1 }) ho fun hp3 hE3 sb => ?_⟩
    have nN : s.heap.objs.size ≠ en := Nat.ne_of_gt le
    have at3 : hp3.get? s.heap.objs.size = some { cls := .type "tuple", data := .seq #[.int ((n + 1 : Nat) : Int) tk, u] } := by rw [sb.2 _ nN]; exact hN
    have two : 2 ≤ sizeLine := by decide
    have okT : ObjOk X.prog X.w (upd G s.heap.objs.size (.tup [.int ((n + 1 : Nat) : Int), y])) hp3 s.heap.objs.size (.tup [.int ((n + 1 : Nat) : Int), y]) :=
      ⟨two, [.int ((n + 1 : Nat) : Int) tk, u], .cons ⟨_, rfl⟩ (.cons ru .nil), ⟨_, at3, rfl, _, rfl⟩⟩
    have J : Inv X pins σ (upd G s.heap.objs.size (.tup [.int ((n + 1 : Nat) : Int), y])) { s with heap := hp3, toks := tk + 1 } := by
      refine I.turnedNew (ch := [en, li]) (fun b ob hb q => ?_) free (Nat.le_refl _) okT
      have b1 : b ≠ en := fun z => hb (by simp [z])
      have b2 : b ≠ li := fun z => hb (by simp [z])
      rw [sb.2 b b1]
      exact hk b ob b1 b2 q
    refine ⟨.ref s.heap.objs.size, _, J, rfl, ⟨_, y, rfl, I.hok.fresh (Nat.le_refl _), rfl, fun zs hs => by rw [I.list_inj hs sq]; exact hy⟩, ⟨⟨u, ?_⟩, hI2.at fun ob q => by rw [sb.2 li (Ne.symm ne)]; exact q, ne⟩, fun b hb => ?_⟩
    · rw [show ((n + 1 + 1 : Nat) : Int) = ((n + 1 : Nat) : Int) + 1 by omega]
      exact hE3
    · have lb : b < s.heap.objs.size := by
        have cs : b = en ∨ b = li := by simpa using hb
        rcases cs with rfl | rfl
        · exact le
        · exact ll
      rw [upd_ne (Nat.ne_of_lt lb)]
      exact (free b hb).1
  done := by
    intro X h1 h2 h3 hc n pins s σ G E I free st hg
    subst h1 h2 h3
    obtain ⟨⟨pr, hE⟩, hI, ne⟩ := st
    obtain ⟨ys, sq, ln⟩ := hg
    obtain ⟨vs, rv, pl, sz⟩ := I.list sq
    obtain ⟨g0, g1, g2, g3, g4, g5⟩ := free li (by simp)
    have lv := rv.length
    obtain rfl : vs.toArray.size = n := by simp; omega
    exact wpAny_pyNext_enum_endD (draws_l (prog := X.prog) (w := X.w) (A := X.A.in1) (I.ok.hd hc) li a vs.toArray) hE ⟨hI, pl.isList⟩ fun hp2 same => ⟨rfl, I.turned (t' := s.toks) (fun b ob hb q => same b ob hb q) g0 g1 g3 g4 g5⟩
  self := fun A n s Q E ⟨⟨_, hE⟩, _⟩ h => wpAny_pyIter_enum hE h
def iEnum1 (K : PySem.W.Frag) (ta : TA) : TI := fun σ G R => ta σ G fun vs G1 => ∃ a ys, vs = [.ref a] ∧ SqL K G1 a ys ∧ R (Itn K a) G1
theorem kwT {M : Model} {A : Around} {E : Value → Shared → Prop} {s : Shared} {ps : Pos} {T : String} {as : List (Bool × Sem Value)} {ks : List (Option Str × Sem Value)} {Q : Value → Shared → Prop} (ha : as.any (·.1) = false) (hk : ks.any (·.1.isNone) = false)
    (q : wpAny M A (evalArgs (.type T) true as ks) (fun a u => wpAny M A (call (.type T) a.pos a.kw) Q E u) E s) : wpAny M A (callWith ps (.type T) [] as ks) Q E s := by
  unfold callWith
  apply wpAny_bind
  apply wpAny_holding
  refine wpAny_mono q (fun a u qa => ?_) fun _ _ z => z
  apply wpAny_bind
  apply wpAny_standAt
  simp only [ha, hk, Bool.or_false]
  apply wpAny_bind
  apply wpAny_pure
  apply wpAny_bind
  refine wpAny_mono qa (fun r u2 qr => ?_) fun _ _ z => z
  exact wpAny_bind (wpAny_holding (wpAny_point (wpAny_pure qr)))
theorem pi_enum1 {X : Cx} {e : Expr} {ta : TA} {p ps tp kp cp : Pos} {els : List Expr} {kd j : Nat} (hg : Gl X "enumerate") (hm : X.mg "enumerate" = none) (ha : PA X [e] ta) (hs : starEach [e] X.env = [(false, eval e X.env)] := by rfl) :
    PI X (.Tuple els kd tp) (.Call (.Name "enumerate" p) [e] [⟨some "start", .Constant (.int 1) j cp, kp⟩] ps) (iEnum1 X.K ta) := by
  refine ⟨fun pins s σ G R I h => ?_⟩
  refine PySem.wpAny_Call_Name_kw (ld_blt I hg hm PyProof.Rows.boot_enumerate ?_)
  have hb : backTo ps (starEach [e] X.env) = (false, eval e X.env) :: [] := by rw [hs]; rfl
  have pa := ha.run ps pins s σ G _ I h
  rw [hb] at pa ⊢
  refine kwT rfl rfl ?_
  refine PyProof.Rows.evalArgs_kwB rfl ?_
  refine thn pa fun us s1 q1 => ?_
  obtain ⟨vs, G1, I1, r1, a, ys, ev, sq, k⟩ := q1
  subst ev
  cases r1 with
  | cons r rr =>
    cases rr
    cases r
    refine PyProof.Rows.kws_cons ?_
    have one : PE X (.Constant (.int 1) j cp) (tC (.int 1)) := pe_int
    refine thn (one.run pins s1 σ G1 (fun z G2 => z = .int 1 ∧ R (Itn X.K a) G2 ∧ SqL X.K G2 a ys) I1 ⟨rfl, k, sq⟩) fun v s2 q2 => ?_
    obtain ⟨z, G2, I2, rz, ez, k2, sq2⟩ := q2
    subst ez
    obtain ⟨tk, ev⟩ := rz
    subst ev
    refine PyProof.Rows.kws_nil ?_
    clear I1 k sq one
    obtain ⟨vs, rv, pl, sz⟩ := I2.list sq2
    refine enum_begins_start (begins_list a vs.toArray) pl.isList (by decide) (by decide) fun hp2 hE hLi hz kp => wpAny_pyIter_enum hE ?_
    have J : Inv X pins σ G2 { s2 with heap := hp2 } := I2.kept (t' := s2.toks) kp
    have lit : hp2.IsListIter s2.heap.objs.size a 0 := ⟨_, hLi, rfl, rfl⟩
    refine ⟨s2.heap.objs.size + 1, [s2.heap.objs.size + 1, s2.heap.objs.size], _, _, G2, rfl, J, turn1 a (s2.heap.objs.size + 1) s2.heap.objs.size, ⟨⟨.none, hE⟩, lit, Nat.succ_ne_self _⟩, fun b hb => ?_, k2⟩
    have cs : b = s2.heap.objs.size + 1 ∨ b = s2.heap.objs.size := by simpa using hb
    have le : s2.heap.objs.size ≤ b := by
      rcases cs with z | z
      · rw [z]; exact Nat.le_succ _
      · exact Nat.le_of_eq z.symm
    exact I2.fpOk le (I2.hok.fresh le)
/-- for n, x in enumerate(xs, start=1) -/
theorem for_enum1 {K : PySem.W.Frag} {a : Addr} {ys : List V} {g : TG} {tb : TS} {D : Ends} {σ : L2.St} {G : Hp} (Pv : Nat → L2.St → Hp → Prop) (h0 : Pv 0 σ G) (hq : ∀ i σ G, i ≤ ys.length → Pv i σ G → SqL K G a ys)
    (hs : ∀ i y σ G N, ys[i]? = some y → G N = none → Pv i σ G → g (.ref N) σ (upd G N (.tup [.int ((i + 1 : Nat) : Int), y])) fun σ2 G2 => tb { D with nx := Pv (i + 1), ct := Pv (i + 1), bk := D.nx } σ2 G2) (hd : ∀ σ G, Pv ys.length σ G → D.nx σ G) :
    ∃ W : Nat → Nat → L2.St → Hp → Prop, (∃ m, W 0 m σ G) ∧ ∀ i m σ G, W i m σ G →
      ((Itn K a).stop i G ∧ D.nx σ G) ∨ ((Itn K a).go i G ∧ ∃ N : L2.St → Hp → Prop, (∀ σ' G', N σ' G' → ∃ m', m' < m ∧ W (i + 1) m' σ' G') ∧ ∀ x G', (Itn K a).yld i G x G' → g x σ G' fun σ2 G2 => tb { D with nx := N, ct := N, bk := D.nx } σ2 G2) := by
  refine ⟨fun i m σ G => i ≤ ys.length ∧ m = ys.length - i ∧ Pv i σ G, ⟨_, Nat.zero_le _, rfl, h0⟩, fun i m σ G hw => ?_⟩
  obtain ⟨le, rfl, pv⟩ := hw
  have sq := hq i σ G le pv
  rcases Nat.lt_or_ge i ys.length with lt | ge
  · have hy := List.getElem?_eq_getElem lt
    refine .inr ⟨⟨ys, _, sq, hy⟩, Pv (i + 1), fun σ' G' n => ⟨_, by omega, lt, rfl, n⟩, ?_⟩
    rintro x G' ⟨N, y, rfl, gn, rfl, al⟩
    exact hs i y σ G N (al ys sq) gn pv
  · have e : i = ys.length := by omega
    subst e
    exact .inl ⟨⟨ys, sq, rfl⟩, hd σ G pv⟩
end WE1
namespace WP
open PySem PySem.Spec PyProof.Rows L2
theorem enum1 {K : PySem.W.Frag} {ta : TA} {σ : L2.St} {G : Hp} {R : It → Hp → Prop} (h : ta σ G fun vs G1 => ∃ a ys, vs = [.ref a] ∧ SqL K G1 a ys ∧ R (WE1.Itn K a) G1) : WE1.iEnum1 K ta σ G R := h
end WP

namespace MD
open WP
/-- the least scale: zeros at the end are dropped -/
def nrm : Int → Nat → Int × Nat
  | u, 0 => (u, 0)
  | u, s + 1 => if u % 10 = 0 then nrm (u / 10) s else (u, s + 1)
theorem nrm_le : ∀ (s : Nat) (u : Int), (nrm u s).2 ≤ s
  | 0, u => Nat.le_refl _
  | s + 1, u => by
    unfold nrm
    split
    · exact Nat.le_succ_of_le (nrm_le s _)
    · exact Nat.le_refl _
theorem nrm_val : ∀ (s : Nat) (u : Int), (nrm u s).1 * 10 ^ (s - (nrm u s).2) = u
  | 0, u => by unfold nrm; simp
  | s + 1, u => by
    unfold nrm
    split
    · rename_i h
      have ih := nrm_val s (u / 10)
      have l := nrm_le s (u / 10)
      have e : s + 1 - (nrm (u / 10) s).2 = (s - (nrm (u / 10) s).2) + 1 := by omega
      rw [e, Int.pow_succ, ← Int.mul_assoc, ih]
      omega
    · simp
/-- a decimal: the scale is the least one -/
def Dec (u : Int) (s : Nat) : Prop := s = 0 ∨ u % 10 ≠ 0
theorem nrm_dec : ∀ (s : Nat) (u : Int), Dec (nrm u s).1 (nrm u s).2
  | 0, u => .inl rfl
  | s + 1, u => by
    unfold nrm
    split
    · exact nrm_dec s _
    · rename_i h; exact .inr h
theorem nrm_self {u : Int} {s : Nat} (h : Dec u s) : nrm u s = (u, s) := by
  cases s with
  | zero => rfl
  | succ s =>
    unfold nrm
    rcases h with h | h
    · cases h
    · rw [if_neg h]
theorem nrm_up : ∀ (m s : Nat) (u : Int), nrm (u * 10 ^ m) (s + m) = nrm u s
  | 0, s, u => by simp
  | m + 1, s, u => by
    have e : u * 10 ^ (m + 1) = u * 10 ^ m * 10 := by rw [Int.pow_succ, Int.mul_assoc]
    rw [← Nat.add_assoc, e]
    show (if (u * 10 ^ m * 10) % 10 = 0 then nrm (u * 10 ^ m * 10 / 10) (s + m) else _) = _
    rw [if_pos (Int.mul_emod_left _ _), Int.mul_ediv_cancel _ (by decide)]
    exact nrm_up m s u
theorem nrm_abs : ∀ (s : Nat) (u : Int), (nrm u s).1.natAbs ≤ u.natAbs
  | 0, u => Nat.le_refl _
  | s + 1, u => by
    unfold nrm
    split
    · have := nrm_abs s (u / 10)
      omega
    · exact Nat.le_refl _
theorem nrm_bt {u : Int} {s a : Nat} (h : Bt u a) : Bt (nrm u s).1 a := h.le (nrm_abs s u)
end MD
namespace MD
theorem nrm_eq (u : Int) (s : Nat) : (nrm u s).1 * 10 ^ s = u * 10 ^ (nrm u s).2 := by
  have h := nrm_val s u
  have l := nrm_le s u
  have e : (10 : Int) ^ s = 10 ^ (s - (nrm u s).2) * 10 ^ (nrm u s).2 := by rw [← Int.pow_add]; congr 1; omega
  rw [e, ← Int.mul_assoc, h]
end MD

namespace MP
open PySem PySem.Spec PyProof.Rows L2
open SX (S)
/-- a picture with digits: a number picture or an edited one -/
inductive Pic where
  | num (sg : Bool) (w f : Nat)
  | ed (body : List Nat) (w f : Nat) (sign : List Nat)
def Pic.wh : Pic → Nat
  | .num _ w _ => w
  | .ed _ w _ _ => w
def Pic.fr : Pic → Nat
  | .num _ _ f => f
  | .ed _ _ f _ => f
def Pic.n (p : Pic) : Nat := p.wh + p.fr
def Pic.sgd : Pic → Bool
  | .num sg _ _ => sg
  | .ed _ _ _ s => !decide (s = [])
/-- the sign as the text is written -/
def Pic.sgn : Pic → List Nat
  | .num sg _ _ => if sg then [43] else []
  | .ed _ _ _ s => s
def Pic.vs : Pic → List V
  | .num sg w f => [.str (S [110, 117, 109, 98, 101, 114]), .bl sg, .int (w : Int), .int (f : Int)]
  | .ed b w f s => [.str (S [101, 100, 105, 116, 101, 100]), .str (S b), .int (w : Int), .int (f : Int), .str (S s)]
/-- z * 9 -/
def isD (c : Nat) : Bool := c == 122 || c == 42 || c == 57
/-- , b 0 / -/
def isI (c : Nat) : Bool := c == 44 || c == 98 || c == 48 || c == 47
def okM (c : Nat) : Bool := isD c || c == 46 || isI c
def signs : List (List Nat) := [[], [45], [43], [46, 45], [46, 43], [99, 114], [100, 98]]
structure Body (b : List Nat) (n : Nat) : Prop where
  hd : ∃ c r, b = c :: r ∧ isD c = true
  ok : ∀ c ∈ b, okM c = true
  ct : (b.filter isD).length = n
  ln : b.length ≤ 60
def Pic.Ok : Pic → Prop
  | .num _ w f => 1 ≤ w + f ∧ w + f ≤ 18
  | .ed b w f s => 1 ≤ w + f ∧ w + f ≤ 18 ∧ Body b (w + f) ∧ s ∈ signs
theorem Pic.Ok.n1 {p : Pic} (h : p.Ok) : 1 ≤ p.n ∧ p.n ≤ 18 := by
  cases p with
  | num sg w f => exact h
  | ed b w f s => exact ⟨h.1, h.2.1⟩
/-- what an inserted mark becomes -/
def insM (c : Nat) : Nat := if c = 98 then 32 else c
def bodyF (fill : Nat) : Bool → List Nat → List Nat → List Nat
  | _, [], _ => []
  | hid, m :: ms, fs =>
    if isD m then
      (match fs with
      | [] => []
      | c :: cs => let h := hid && (!(m == 57)) && (c == 48); (if h then fill else c) :: bodyF fill h ms cs)
    else if m = 46 then 46 :: bodyF fill false ms fs
    else (if hid then fill else insM m) :: bodyF fill hid ms fs
def hd (b : List Nat) : Nat := b.headD 0
def fillOf (b : List Nat) : Nat := if hd b = 42 then 42 else 32
def bodyText (b fs : List Nat) : List Nat := bodyF (fillOf b) (!(hd b == 57)) b fs
def signText (s : List Nat) (neg : Bool) : List Nat :=
  if s = [99, 114] then (if neg then [67, 82] else [32, 32]) else if s = [100, 98] then (if neg then [68, 66] else [32, 32])
  else if s = [] then [] else if neg then [45] else if s = [43] ∨ s = [46, 43] then [43] else [32]
/-- the text of a field -/
def writ : Pic → Int → List Nat
  | .num sg w f, u => signText (if sg then [43] else []) (decide (u < 0)) ++ WP.padL (w + f) u.natAbs
  | .ed b w f s, u => if s = [45] ∨ s = [43] then signText s (decide (u < 0)) ++ bodyText b (WP.padL (w + f) u.natAbs) else bodyText b (WP.padL (w + f) u.natAbs) ++ signText s (decide (u < 0))
def Suits (p : Pic) (u : Int) : Prop := u.natAbs < 10 ^ p.n ∧ (0 ≤ u ∨ p.sgd = true)
instance {p : Pic} {u : Int} : Decidable (Suits p u) := by unfold Suits; infer_instance
end MP
namespace MP
theorem drop_some {l : List Nat} {i c : Nat} (h : l[i]? = some c) : l.drop i = c :: l.drop (i + 1) := by
  obtain ⟨hi, e⟩ := List.getElem?_eq_some_iff.mp h
  rw [List.drop_eq_getElem_cons hi, e]
theorem memD (c : Nat) : decide ([c] ∈ [[122], [42], [57]]) = isD c := by
  unfold isD
  by_cases h1 : c = 122
  · subst h1; rfl
  by_cases h2 : c = 42
  · subst h2; rfl
  by_cases h3 : c = 57
  · subst h3; rfl
  rw [decide_eq_false (by simp [h1, h2, h3])]
  simp [h1, h2, h3]
theorem memH {c : Nat} (h : isD c = true) : decide ([c] ∈ [[122], [42]]) = !(c == 57) := by
  have h' : c = 122 ∨ c = 42 ∨ c = 57 := by simpa [isD, or_assoc] using h
  rcases h' with rfl | rfl | rfl <;> rfl
theorem bodyF_D {fill m : Nat} {hid : Bool} {ms cs : List Nat} {c : Nat} (h : isD m = true) : bodyF fill hid (m :: ms) (c :: cs) = (if (hid && (!(m == 57)) && (c == 48)) = true then fill else c) :: bodyF fill (hid && (!(m == 57)) && (c == 48)) ms cs := by
  rw [bodyF, if_pos h]
theorem bodyF_P {fill : Nat} {hid : Bool} {ms fs : List Nat} : bodyF fill hid (46 :: ms) fs = 46 :: bodyF fill false ms fs := by
  conv => lhs; unfold bodyF
  show (if isD 46 = true then _ else if (46 : Nat) = 46 then _ else _) = _
  rw [if_neg (by decide), if_pos rfl]
theorem bodyF_I {fill m : Nat} {hid : Bool} {ms fs : List Nat} (h : isD m = false) (h2 : m ≠ 46) : bodyF fill hid (m :: ms) fs = (if hid = true then fill else insM m) :: bodyF fill hid ms fs := by
  conv => lhs; unfold bodyF
  show (if isD m = true then _ else if m = 46 then _ else _) = _
  rw [if_neg (by rw [h]; decide), if_neg h2]
end MP
namespace MP
def bodies : List (List Nat) := [[122, 122, 57], [122, 122, 122], [122, 57], [57], [42, 42, 42], [42, 42, 57], [122, 122, 44, 122, 122, 57], [42, 42, 44, 42, 42, 42], [57, 57, 47, 57, 57], [122, 44, 122, 122, 57, 98, 57], [57, 98, 57], [122, 48, 122], [57, 57], [122, 98, 57]]
theorem bodies_ok : ∀ b ∈ bodies, ∀ f < 4, (b ++ [46] ++ [57, 57, 57].take f).head?.any isD = true ∧ (b ++ [46] ++ [57, 57, 57].take f).all okM = true ∧ (b ++ [46] ++ [57, 57, 57].take f).length ≤ 60 ∧
    ((b ++ [46] ++ [57, 57, 57].take f).filter isD).length = (b.filter isD).length + f ∧ 1 ≤ (b.filter isD).length ∧ (b.filter isD).length ≤ 5 ∧ b.head?.any isD = true ∧ b.all okM = true ∧ b.length ≤ 60 := by decide
theorem body_of {b : List Nat} {n : Nat} (h1 : b.head?.any isD = true) (h2 : b.all okM = true) (h3 : b.length ≤ 60) (h4 : (b.filter isD).length = n) : Body b n := by
  refine ⟨?_, fun c hc => List.all_eq_true.mp h2 c hc, h4, h3⟩
  cases b with
  | nil => cases h1
  | cons c r => exact ⟨c, r, rfl, h1⟩
theorem memI (c : Nat) : decide (c ∈ [122, 42, 57]) = isD c := by
  rw [← memD]
  congr 1
  simp
end MP
namespace MP
open PySem PySem.Spec PyProof.Rows L2
open SX (S)
theorem at_w (p : Pic) : atI p.vs (2 : Int) = some (.int (p.wh : Int)) := by cases p <;> exact WP.at2
theorem at_f (p : Pic) : atI p.vs (3 : Int) = some (.int (p.fr : Int)) := by cases p <;> exact WP.at3
/-- picture[1] if picture[0] == 'number' else picture[4] != '' -/
theorem sgdE {K : PySem.W.Frag} {σ : L2.St} {H : Hp} {Q : VK} {i : Nat} {p : Addr} {pic : Pic} (hv : σ[i]? = some (some (.ref p))) (hp : SqT K H p pic.vs) (q : Q (.bl pic.sgd) H) :
    tIf (tTest (tOp rEq (tOp (rIxT K) (tVar i) (tC (.int 0))) (tC (.str (S [110, 117, 109, 98, 101, 114]))))) (tOp (rIxT K) (tVar i) (tC (.int 1))) (tOp rNe (tOp (rIxT K) (tVar i) (tC (.int 4))) (tC (.str (S [])))) σ H Q := by
  refine WP.ifE (WP.test (WP.op (WP.op (WP.var hv (WP.con ?_)))))
  cases pic with
  | num sg a b =>
    refine WP.ixT hp WP.at0 (WP.con (WP.eqTS ?_))
    refine WP.isbV (R := fun b => if b = true then _ else _) ?_
    refine WP.brT (by decide) (WP.op (WP.var hv (WP.con (WP.ixT hp WP.at1 q))))
  | ed m a b s =>
    refine WP.ixT hp WP.at0 (WP.con (WP.eqTS ?_))
    refine WP.isbV (R := fun b => if b = true then _ else _) ?_
    refine WP.brF (by decide) (WP.op (WP.op (WP.var hv (WP.con (WP.ixT hp WP.at4 (WP.con (WP.neTS q)))))))
theorem ten_cast (n : Nat) : ((10 ^ n : Nat) : Int) = (10 : Int) ^ n := by rw [Int.natCast_pow]; rfl
theorem suits_abs {pic : Pic} {u : Int} (h0 : 0 ≤ u) (h : u < 10 ^ pic.n) : Suits pic u := ⟨by have := ten_cast pic.n; omega, .inl h0⟩
end MP
namespace MP
theorem memJ (c : Nat) : decide (c ∈ [44, 98, 48, 47]) = isI c := by
  unfold isI
  by_cases h1 : c = 44
  · subst h1; rfl
  by_cases h2 : c = 98
  · subst h2; rfl
  by_cases h3 : c = 48
  · subst h3; rfl
  by_cases h4 : c = 47
  · subst h4; rfl
  rw [decide_eq_false (by simp [h1, h2, h3, h4])]
  simp [h1, h2, h3, h4]
theorem bodyF_lt (fill : Nat) (hf : fill < 128) : ∀ (ms : List Nat) (hid : Bool) (fs : List Nat), (∀ c ∈ ms, okM c = true) → (∀ c ∈ fs, c < 128) → ∀ c ∈ bodyF fill hid ms fs, c < 128
  | [], hid, fs, _, _, c, hc => by unfold bodyF at hc; cases hc
  | m :: ms, hid, fs, h1, h2, c, hc => by
    have ok := h1 m (.head _)
    have h1' : ∀ c ∈ ms, okM c = true := fun c hc => h1 c (.tail _ hc)
    cases hD : isD m with
    | true =>
      cases fs with
      | nil =>
        unfold bodyF at hc
        rw [if_pos hD] at hc
        cases hc
      | cons d ds =>
        rw [bodyF_D hD] at hc
        have h2' : ∀ c ∈ ds, c < 128 := fun c hc => h2 c (.tail _ hc)
        rcases List.mem_cons.mp hc with e | e
        · rw [e]
          split
          · exact hf
          · exact h2 d (.head _)
        · exact bodyF_lt fill hf ms _ ds h1' h2' c e
    | false =>
      by_cases h46 : m = 46
      · subst h46
        rw [bodyF_P] at hc
        rcases List.mem_cons.mp hc with e | e
        · rw [e]; decide
        · exact bodyF_lt fill hf ms _ fs h1' h2 c e
      · rw [bodyF_I hD h46] at hc
        rcases List.mem_cons.mp hc with e | e
        · rw [e]
          split
          · exact hf
          · have hI : m = 44 ∨ m = 98 ∨ m = 48 ∨ m = 47 := by
              have : (m == 46) = false := beq_eq_false_iff_ne.mpr h46
              simpa [okM, hD, this, isI, or_assoc] using ok
            rcases hI with rfl | rfl | rfl | rfl <;> decide
        · exact bodyF_lt fill hf ms _ fs h1' h2 c e
theorem padL_lt : ∀ (k n c : Nat), c ∈ WP.padL k n → c < 128
  | 0, _, _, h => by cases h
  | k + 1, n, c, h => by
    rcases List.mem_append.mp (show c ∈ WP.padL k (n / 10) ++ [48 + n % 10] from h) with e | e
    · exact padL_lt k _ c e
    · rw [List.mem_singleton.mp e]; omega
theorem signText_lt : ∀ s ∈ signs, ∀ neg : Bool, ∀ c ∈ signText s neg, c < 128 := by decide
theorem writ_ok {pic : Pic} {u : Int} (h : pic.Ok) : WP.SOk (SX.S (writ pic u)) := WP.sok_S fun c hc => by
  have : c < 128 := by
    cases pic with
    | num sg w f =>
      rcases List.mem_append.mp (show c ∈ signText (if sg then [43] else []) (decide (u < 0)) ++ WP.padL (w + f) u.natAbs from hc) with e | e
      · refine signText_lt _ ?_ _ c e
        cases sg
        · exact (show ([] : List Nat) ∈ signs by decide)
        · exact (show ([43] : List Nat) ∈ signs by decide)
      · exact padL_lt _ _ c e
    | ed b w f s =>
      have hb : ∀ c ∈ bodyText b (WP.padL (w + f) u.natAbs), c < 128 := bodyF_lt _ (by unfold fillOf; split <;> decide) _ _ _ h.2.2.1.ok (fun c hc => padL_lt _ _ c hc)
      have hs := signText_lt s h.2.2.2 (decide (u < 0))
      have hc' : c ∈ (if s = [45] ∨ s = [43] then signText s (decide (u < 0)) ++ bodyText b (WP.padL (w + f) u.natAbs) else bodyText b (WP.padL (w + f) u.natAbs) ++ signText s (decide (u < 0))) := hc
      split at hc'
      · rcases List.mem_append.mp hc' with e | e
        · exact hs c e
        · exact hb c e
      · rcases List.mem_append.mp hc' with e | e
        · exact hb c e
        · exact hs c e
  omega
end MP
namespace MP
theorem due_eq {pic : Pic} {u : Int} : (decide ((u.natAbs : Int) < 10 ^ pic.n) && (decide (0 ≤ u) || pic.sgd)) = decide (Suits pic u) := by
  have c := ten_cast pic.n
  have e : ((u.natAbs : Int) < 10 ^ pic.n) ↔ u.natAbs < 10 ^ pic.n := by omega
  rw [Bool.eq_iff_iff, Bool.and_eq_true, Bool.or_eq_true, decide_eq_true_eq, decide_eq_true_eq, decide_eq_true_eq]
  unfold Suits
  rw [e]
end MP

namespace MP
theorem suits_cut {pic : Pic} {u : Int} : Suits pic (if u < 0 ∧ pic.sgd = true then -((u.natAbs : Int) % 10 ^ pic.n) else (u.natAbs : Int) % 10 ^ pic.n) := by
  have c := ten_cast pic.n
  have hT : (0 : Int) < 10 ^ pic.n := Int.pow_pos (by decide)
  have h0 := Int.emod_nonneg (u.natAbs : Int) (show (10 : Int) ^ pic.n ≠ 0 by omega)
  have h1 := Int.emod_lt_of_pos (u.natAbs : Int) hT
  generalize (u.natAbs : Int) % 10 ^ pic.n = x at h0 h1 ⊢
  split
  · rename_i h
    exact ⟨by omega, .inr h.2⟩
  · exact ⟨by omega, .inl h0⟩
end MP

namespace MW
open PySem PySem.Spec PyProof.Rows L2
open SX (S)
def FIG : List Nat := [48, 49, 50, 51, 52, 53, 54, 55, 56, 57]
def LET : List Nat := [97, 98, 99, 100, 101, 102, 103, 104, 105, 106, 107, 108, 109, 110, 111, 112, 113, 114, 115, 116, 117, 118, 119, 120, 121, 122]
/-- the printable signs -/
def PRN : List Nat := [32, 33, 34, 35, 36, 38, 39, 40, 41, 42, 43, 44, 45, 46, 47, 48, 49, 50, 51, 52, 53, 54, 55, 56, 57, 58, 59, 60, 61, 62, 63, 64, 65, 66, 67, 68, 69, 70, 71, 72, 73, 74, 75, 76, 77, 78, 79, 80, 81, 82, 83, 84, 85, 86, 87, 88, 89, 90, 91, 92, 93, 94, 95, 96, 97, 98, 99, 100, 101, 102, 103, 104, 105, 106, 107, 108, 109, 110, 111, 112, 113, 114, 115, 116, 117, 118, 119, 120, 121, 122, 123, 124, 125, 126]
def allIn (l cs : List Nat) : Bool := l.all fun c => decide (c ∈ cs)
def figs (l : List Nat) : Bool := !decide (l = []) && allIn l FIG
def prn (l : List Nat) : Bool := l.all fun c => decide (32 ≤ c ∧ c ≤ 126 ∧ c ≠ 37)
theorem allIn_nil (cs : List Nat) : allIn [] cs = true := rfl
theorem figs_all {l : List Nat} (h : figs l = true) : l ≠ [] ∧ l.all (fun c => decide (48 ≤ c) && decide (c ≤ 57)) = true := by
  unfold figs at h
  rw [Bool.and_eq_true, Bool.not_eq_true', decide_eq_false_iff_not] at h
  refine ⟨h.1, List.all_eq_true.mpr fun c hc => ?_⟩
  have := List.all_eq_true.mp h.2 c hc
  have m : c ∈ FIG := of_decide_eq_true this
  have : c = 48 ∨ c = 49 ∨ c = 50 ∨ c = 51 ∨ c = 52 ∨ c = 53 ∨ c = 54 ∨ c = 55 ∨ c = 56 ∨ c = 57 := by simpa [FIG] using m
  rw [Bool.and_eq_true, decide_eq_true_eq, decide_eq_true_eq]
  omega
/-- some value of the law: a text, or something else -/
inductive Wd (K : PySem.W.Frag) (H : Hp) : V → Prop
  | str {l : List Nat} (hl : l.length ≤ 1000) (ok : ∀ c ∈ l, c < 128) : Wd K H (.str (S l))
  | non : Wd K H .non
  | int (i : Int) : Wd K H (.int i)
  | bl (b : Bool) : Wd K H (.bl b)
  | tup {p : Addr} {xs : List V} (h : SqT K H p xs) : Wd K H (.ref p)
  | lst {p : Addr} {xs : List V} (h : SqL K H p xs) : Wd K H (.ref p)
theorem Wd.sm {K : PySem.W.Frag} {H H' : Hp} {v : V} (e : WP.Sm H H') (h : Wd K H v) : Wd K H' v := by
  cases h with
  | str hl ok => exact .str hl ok
  | non => exact .non
  | int i => exact .int i
  | bl b => exact .bl b
  | tup h => exact .tup (e.tup h)
  | lst h => exact .lst (e.lst h)
def isS : V → Bool
  | .str _ => true
  | _ => false
theorem tyL {K : PySem.W.Frag} {H : Hp} {p : Addr} {xs : List V} (h : SqL K H p xs) : TyX K H (.ref p) (.type "list") := by
  rcases h with (h | ⟨o, h⟩) | h
  · exact .base (.lst h)
  · exact .base (.frz h)
  · obtain ⟨o, its, n, h1, h2, h3⟩ := h
    exact .kList h1 h2
/-- isinstance(v, str) -/
theorem Wd.isStr {K : PySem.W.Frag} {H : Hp} {v : V} {Q : VK} (h : Wd K H v) (q : Q (.bl (isS v)) H) : rIsi K [v, .ty "str"] H Q := by
  cases h with
  | str hl ok => exact WP.isY (.base (.str _)) q
  | non => exact WP.isN (.base .non) q
  | int i => exact WP.isN (.base (.int i)) q
  | bl b => exact WP.isN (.base (.bl b)) q
  | tup h => exact WP.isN (WP.tyT h) q
  | lst h => exact WP.isN (tyL h) q
/-- what is asked of a text, False of another value -/
def onS (f : List Nat → Bool) : V → Bool
  | .str z => f z.cps.toList
  | _ => false
theorem onS_S {f : List Nat → Bool} {l : List Nat} : onS f (.str (S l)) = f l := rfl
theorem Wd.cases {K : PySem.W.Frag} {H : Hp} {v : V} (h : Wd K H v) : (∃ l, v = .str (S l) ∧ l.length ≤ 1000 ∧ ∀ c ∈ l, c < 128) ∨ (isS v = false ∧ ∀ f, onS f v = false) := by
  cases h with
  | str hl ok => exact .inl ⟨_, rfl, hl, ok⟩
  | _ => exact .inr ⟨rfl, fun _ => rfl⟩
/-- the reserved words -/
def RES : List (List Nat) := [[112, 114, 111, 103, 114, 97, 109], [100, 97, 116, 97], [102, 105, 108, 101, 115], [112, 114, 111, 99, 101, 100, 117, 114, 101], [112, 105, 99, 116, 117, 114, 101], [111, 99, 99, 117, 114, 115], [118, 97, 108, 117, 101], [105, 110, 112, 117, 116], [111, 117, 116, 112, 117, 116], [114, 101, 99, 111, 114, 100], [109, 111, 118, 101], [116, 111], [115, 101, 116], [114, 111, 117, 110, 100, 101, 100], [101, 108, 115, 101], [101, 110, 100], [100, 105, 118, 105, 100, 101], [98, 121], [103, 105, 118, 105, 110, 103], [114, 101, 109, 97, 105, 110, 100, 101, 114], [105, 102], [116, 104, 101, 110], [112, 101, 114, 102, 111, 114, 109], [116, 104, 114, 117], [116, 105, 109, 101, 115], [117, 110, 116, 105, 108], [118, 97, 114, 121, 105, 110, 103], [102, 114, 111, 109], [114, 101, 97, 100], [97, 116], [98, 97, 100], [119, 114, 105, 116, 101], [115, 104, 111, 119], [115, 111, 114, 116], [100, 101, 115, 99, 101, 110, 100, 105, 110, 103], [99, 108, 101, 97, 114], [115, 116, 111, 112], [110, 111, 116], [97, 110, 100], [111, 114], [100, 105, 103, 105, 116, 115], [116, 101, 120, 116]]
def nameB (l : List Nat) : Bool :=
  decide (1 ≤ l.length ∧ l.length ≤ 20) && (!decide (l ∈ RES) && (decide (l.headD 0 ∈ LET) && (!decide ((l.getLast?).getD 0 = 45) && allIn l (LET ++ FIG ++ [45]))))
theorem ends {l : List Nat} (h : 1 ≤ l.length) : atI l (0 : Int) = some (l.headD 0) ∧ atI l (-1 : Int) = some ((l.getLast?).getD 0) := by
  cases l with
  | nil => exact absurd h (by decide)
  | cons c r =>
    refine ⟨WP.at0, ?_⟩
    have e : ixN (c :: r).length (-1) = some r.length := by
      unfold ixN
      rw [if_neg (by decide)]
      rw [List.length_cons]
      first | (rw [if_pos (by omega)]; congr 1; omega) | (simp; omega)
    unfold atI
    rw [e]
    show (c :: r)[r.length]? = _
    have e2 : (c :: r).getLast? = (c :: r)[(c :: r).length - 1]? := List.getLast?_eq_getElem?
    rw [show (c :: r).length - 1 = r.length from rfl] at e2
    rw [← e2]
    simp [List.getLast?_cons]
theorem cps_S (l : List Nat) : (S l).cps.toList = l := rfl
theorem prn_codes (l : List Nat) : ((l.map fun c => ((c : Nat) : Int)).all fun c => decide ((32 : Int) ≤ c ∧ c ≤ 126 ∧ c ≠ 37)) = prn l := by
  unfold prn
  rw [List.all_map]
  congr 1
  funext c
  show decide _ = decide _
  congr 1
  exact propext ⟨fun (h : (32 : Int) ≤ (c : Int) ∧ (c : Int) ≤ 126 ∧ (c : Int) ≠ 37) => by omega, fun h => show (32 : Int) ≤ (c : Int) ∧ (c : Int) ≤ 126 ∧ (c : Int) ≠ 37 by omega⟩
theorem prn_in (l : List Nat) : allIn l PRN = prn l := by
  unfold allIn prn
  congr 1
  funext c
  congr 1
  refine propext ⟨fun h => ?_, fun ⟨h1, h2, h3⟩ => ?_⟩
  · have : ∀ c ∈ PRN, 32 ≤ c ∧ c ≤ 126 ∧ c ≠ 37 := by decide
    exact this c h
  · have : ∀ c < 127, 32 ≤ c → c ≠ 37 → c ∈ PRN := by decide
    exact this c (by omega) h1 h3
/-- the reserved words as data -/
def resD : List PyData := RES.map fun a => PyData.str (S a)
theorem dpAll_S {K : PySem.W.Frag} {H : Hp} : ∀ ls : List (List Nat), DpAll K H (ls.map fun a => V.str (S a)) (ls.map fun a => PyData.str (S a))
  | [] => .nil
  | _ :: r => .cons (.str _) (dpAll_S r)
theorem dpRes {K : PySem.W.Frag} (H : Hp) : DpAll K H (RES.map fun a => V.str (S a)) resD := dpAll_S RES
theorem resSh : SeqAt.shaped (.list resD) = true := by decide +kernel
theorem resLay : (PyData.list resD).canLay0 = true := by decide +kernel
end MW

namespace MT
open PySem PySem.Spec PyProof.Rows L2 MW
open SX (S)
/-! ### a text cut at the first sign c -/
def cutW (c : Nat) (l : List Nat) : List Nat := l.takeWhile (· != c)
def cutR (c : Nat) (l : List Nat) : Option (List Nat) := match l.dropWhile (· != c) with
  | [] => none
  | _ :: r => some r
theorem dw_head {c : Nat} : ∀ {l : List Nat} {x : Nat} {r : List Nat}, l.dropWhile (· != c) = x :: r → x = c
  | [], _, _, h => by cases h
  | y :: l, x, r, h => by
    by_cases e : y = c
    · subst e
      rw [List.dropWhile_cons_of_neg (by simp)] at h
      cases h; rfl
    · rw [List.dropWhile_cons_of_pos (by simp [e])] at h
      exact dw_head h
theorem cutW_free (c : Nat) (l : List Nat) : c ∉ cutW c l := fun h => by
  have := List.all_eq_true.mp (List.all_takeWhile (l := l) (p := (· != c))) c h
  simp at this
theorem cut_none {c : Nat} {l : List Nat} (h : cutR c l = none) : cutW c l = l ∧ c ∉ l := by
  have e := List.takeWhile_append_dropWhile (p := (· != c)) (l := l)
  have hd : l.dropWhile (· != c) = [] := by
    unfold cutR at h
    split at h
    · rename_i z; exact z
    · cases h
  rw [hd, List.append_nil] at e
  have e : cutW c l = l := e
  exact ⟨e, by have := cutW_free c l; rw [e] at this; exact this⟩
theorem cut_some {c : Nat} {l r : List Nat} (h : cutR c l = some r) : l = cutW c l ++ c :: r := by
  have e := List.takeWhile_append_dropWhile (p := (· != c)) (l := l)
  unfold cutR at h
  split at h
  · cases h
  · rename_i x r' z
    cases h
    rw [z, dw_head z] at e
    exact e.symm
theorem cut_of {c : Nat} : ∀ {p q : List Nat}, c ∉ p → cutW c (p ++ c :: q) = p ∧ cutR c (p ++ c :: q) = some q
  | [], q, _ => by
    unfold cutW cutR
    simp
  | x :: p, q, h => by
    have hx : x ≠ c := fun e => h (by rw [e]; exact List.mem_cons_self ..)
    obtain ⟨h1, h2⟩ := cut_of (q := q) (c := c) (p := p) fun m => h (List.mem_cons_of_mem _ m)
    unfold cutW cutR at *
    rw [List.cons_append, List.takeWhile_cons_of_pos (by simp [hx]), List.dropWhile_cons_of_pos (by simp [hx])]
    exact ⟨by rw [h1], h2⟩
theorem cut_of_none {c : Nat} {p : List Nat} (h : c ∉ p) : cutW c p = p ∧ cutR c p = none := by
  cases e : cutR c p with
  | none => exact ⟨(cut_none e).1, rfl⟩
  | some r =>
    have := cut_some e
    exact absurd (by rw [this]; exact List.mem_append_right _ (List.mem_cons_self ..)) h
/-- partition -/
theorem part_S (c : Nat) (l : List Nat) : Txt.partition (S l) (S [c]) = (S (cutW c l), S (match cutR c l with | none => [] | some _ => [c]), S ((cutR c l).getD [])) := by
  cases h : cutR c l with
  | none =>
    obtain ⟨e, n⟩ := cut_none h
    rw [SX.partition_none (List.cons_ne_nil _ _) (SX.par_head_none n), e]
    rfl
  | some r =>
    have e := cut_some h
    have n := cutW_free c l
    have q : TL.par [c] [] l = some (cutW c l, r) := (congrArg (TL.par [c] []) e).trans (SX.par_head r n)
    rw [SX.partition_some (List.cons_ne_nil _ _) q]
    rfl
/-- split -/
theorem spl_none {c : Nat} {l : List Nat} (h : cutR c l = none) : TL.spl [c] 0 [] l = [l] := by
  have := (cut_none h).2
  have q := TL.spl_last1 (S := []) (acc := []) this
  exact q
theorem spl_some {c : Nat} {l r : List Nat} (h : cutR c l = some r) : TL.spl [c] 0 [] l = cutW c l :: TL.spl [c] 0 [] r := by
  have e := cut_some h
  have n := cutW_free c l
  have q := TL.spl_part1 (S := []) (acc := []) (rest := r) n
  have key : ∀ p, l = p ++ c :: r → TL.spl [c] 0 [] (p ++ c :: r) = p :: TL.spl [c] 0 [] r → TL.spl [c] 0 [] l = p :: TL.spl [c] 0 [] r := fun p e q => by rw [e]; exact q
  exact key _ e q
theorem spl_ne {c : Nat} (l : List Nat) : 1 ≤ (TL.spl [c] 0 [] l).length := by
  cases h : cutR c l with
  | none => rw [spl_none h]; exact Nat.le_refl 1
  | some r => rw [spl_some h]; simp
theorem spl_count {c : Nat} (n : Nat) : ∀ l : List Nat, l.length ≤ n → (TL.spl [c] 0 [] l).length ≤ l.length + 1 := by
  induction n with
  | zero =>
    intro l h
    have : l = [] := List.length_eq_zero_iff.mp (by omega)
    subst this
    rw [TL.spl_nil]
    exact Nat.le_refl _
  | succ n ih =>
    intro l h
    cases e : cutR c l with
    | none => rw [spl_none e]; simp
    | some r =>
      have e2 := congrArg List.length (cut_some e)
      rw [List.length_append, List.length_cons] at e2
      rw [spl_some e, List.length_cons]
      have := ih r (by omega)
      omega
theorem spl_flat {c : Nat} (n : Nat) : ∀ l : List Nat, l.length ≤ n → (TL.spl [c] 0 [] l).flatten.length ≤ l.length := by
  induction n with
  | zero =>
    intro l h
    have : l = [] := List.length_eq_zero_iff.mp (by omega)
    subst this
    rw [TL.spl_nil]
    exact Nat.le_refl _
  | succ n ih =>
    intro l h
    cases e : cutR c l with
    | none => rw [spl_none e]; simp
    | some r =>
      have e2 := congrArg List.length (cut_some e)
      rw [List.length_append, List.length_cons] at e2
      rw [spl_some e, List.flatten_cons, List.length_append]
      have := ih r (by omega)
      omega
/-! ### what a text spells -/
def whole (l : List Nat) : Bool := figs l && (decide (l = [48]) || !decide (l.headD 0 = 48))
def sgn (neg : Bool) (n : Nat) : Int := if neg then -(n : Int) else (n : Int)
def spellB (neg : Bool) (w : List Nat) : Option (List Nat) → Option (Int × Nat)
  | none => if whole w = true ∧ w.length ≤ 18 then some (sgn neg (NumText.digitsVal w), 0) else none
  | some f => if whole w = true ∧ figs f = true ∧ w.length + f.length ≤ 18 then some (MD.nrm (sgn neg (NumText.digitsVal (w ++ f))) f.length) else none
theorem spellB_none {neg : Bool} {w : List Nat} : spellB neg w none = if whole w = true ∧ w.length ≤ 18 then some (sgn neg (NumText.digitsVal w), 0) else none := rfl
theorem spellB_some {neg : Bool} {w f : List Nat} : spellB neg w (some f) = if whole w = true ∧ figs f = true ∧ w.length + f.length ≤ 18 then some (MD.nrm (sgn neg (NumText.digitsVal (w ++ f))) f.length) else none := rfl
def isNeg (l : List Nat) : Bool := decide (l.head? = some 45)
def bodyOf (l : List Nat) : List Nat := if isNeg l = true then l.drop 1 else l
def spell (l : List Nat) : Option (Int × Nat) := spellB (isNeg l) (cutW 46 (bodyOf l)) (cutR 46 (bodyOf l))
theorem spl_filter {c : Nat} (n : Nat) : ∀ l : List Nat, l.length ≤ n → (TL.spl [c] 0 [] l).flatten = l.filter (fun x => !decide (x = c)) := by
  have keep : ∀ w : List Nat, c ∉ w → w.filter (fun x => !decide (x = c)) = w := fun w h => List.filter_eq_self.mpr fun x hx => by
    have : x ≠ c := fun e => h (by rw [← e]; exact hx)
    simp [this]
  induction n with
  | zero =>
    intro l h
    have : l = [] := List.length_eq_zero_iff.mp (by omega)
    subst this
    rw [TL.spl_nil]
    rfl
  | succ n ih =>
    intro l h
    cases e : cutR c l with
    | none =>
      rw [spl_none e, keep l (cut_none e).2]
      simp
    | some r =>
      have e1 := cut_some e
      have e2 := congrArg List.length e1
      rw [List.length_append, List.length_cons] at e2
      rw [spl_some e, List.flatten_cons, ih r (by omega)]
      have k := keep _ (cutW_free c l)
      have e3 := congrArg (List.filter (fun x => !decide (x = c))) e1
      rw [List.filter_append, k] at e3
      rw [e3, List.filter_cons]
      simp
theorem joinL0 : ∀ l : List (List Nat), TL.joinL [] l = l.flatten
  | [] => rfl
  | [p] => by simp [TL.joinL]
  | p :: q :: r => by rw [TL.joinL, joinL0 (q :: r)]; simp
/-- text.replace(c, '') -/
theorem repl_S {c : Nat} (hc : c < 256) (l : List Nat) : Txt.replace (S l) (S [c]) (S []) = S (l.filter (fun x => !decide (x = c))) := by
  have h := StrLaws.replace_one (S l) (S []) c
  have e : (⟨#[c]⟩ : Str) = S [c] := rfl
  rw [e] at h
  rw [h, SX.split_S (List.cons_ne_nil _ _) (by simpa using hc), ← TL.join_eq, SX.join_S, joinL0, spl_filter l.length l (Nat.le_refl _)]
/-! ### figures -/
theorem all_figs {l : List Nat} (h : NumText.AllDigits l) (ne : l ≠ []) : figs l = true := by
  unfold figs
  rw [decide_eq_false ne]
  refine List.all_eq_true.mpr fun c hc => decide_eq_true ?_
  have := h c hc
  have : c = 48 ∨ c = 49 ∨ c = 50 ∨ c = 51 ∨ c = 52 ∨ c = 53 ∨ c = 54 ∨ c = 55 ∨ c = 56 ∨ c = 57 := by omega
  simpa [FIG] using this
theorem numL_hd (n : Nat) : n = 0 ∨ (TL.numL n).headD 0 ≠ 48 := by
  induction n using Nat.strongRecOn with
  | ind n ih =>
    by_cases h : n < 10
    · rw [TL.numL_lt h]
      show n = 0 ∨ 48 + n ≠ 48
      omega
    · rw [TL.numL_step (by omega)]
      rcases ih (n / 10) (by omega) with e | e
      · omega
      · refine .inr ?_
        have ne := TL.numL_ne (n / 10)
        cases hx : TL.numL (n / 10) with
        | nil => exact absurd hx ne
        | cons a r => rw [hx] at e; exact e
theorem digits_zero (k : Nat) (l : List Nat) : NumText.digitsVal (List.replicate k 48 ++ l) = NumText.digitsVal l := by
  induction k with
  | zero => rfl
  | succ k ih => rw [List.replicate_succ, List.cons_append]; exact ih
theorem digits_app : ∀ l, NumText.AllDigits l → ∀ c ∈ l, 48 ≤ c ∧ c ≤ 57 := fun l h c hc => h c hc
end MT
namespace MT
open PySem PySem.Spec PyProof.Rows L2 MW
open SX (S)
/-- the figures of a decimal, and its text (as the program's show makes it) -/
def dF (u : Int) (s : Nat) : List Nat := List.replicate (s + 1 - (TL.numL u.natAbs).length) 48 ++ TL.numL u.natAbs
def dT (u : Int) (s : Nat) : List Nat := (if u < 0 then [45] else []) ++ (if s = 0 then dF u s else (dF u s).take ((dF u s).length - s) ++ [46] ++ (dF u s).drop ((dF u s).length - s))
theorem dF_dig (u : Int) (s : Nat) : NumText.AllDigits (dF u s) := fun c hc => by
  rcases List.mem_append.mp hc with h | h
  · rw [List.eq_of_mem_replicate h]; decide
  · exact TL.numL_digits _ c h
theorem dF_len (u : Int) (s : Nat) : s + 1 ≤ (dF u s).length := by
  have := List.length_pos_iff.mpr (TL.numL_ne u.natAbs)
  unfold dF
  rw [List.length_append, List.length_replicate]
  omega
theorem dF_val (u : Int) (s : Nat) : NumText.digitsVal (dF u s) = u.natAbs := by
  unfold dF
  rw [digits_zero, TL.numL_val]
/-- the part ahead of the point -/
theorem dF_whole (u : Int) (s : Nat) : whole ((dF u s).take ((dF u s).length - s)) = true := by
  have hl := dF_len u s
  have hn := List.length_pos_iff.mpr (TL.numL_ne u.natAbs)
  have ne : (dF u s).take ((dF u s).length - s) ≠ [] := fun e => by
    have := congrArg List.length e
    rw [List.length_take, List.length_nil] at this
    omega
  have dg : NumText.AllDigits ((dF u s).take ((dF u s).length - s)) := fun c hc => dF_dig u s c (List.mem_of_mem_take hc)
  unfold whole
  rw [all_figs dg ne, Bool.true_and, Bool.or_eq_true]
  by_cases h : (TL.numL u.natAbs).length ≤ s
  · left
    have e : (dF u s).length - s = 1 := by
      unfold dF
      rw [List.length_append, List.length_replicate]; omega
    rw [e]
    unfold dF
    obtain ⟨k, hk⟩ : ∃ k, s + 1 - (TL.numL u.natAbs).length = k + 1 := ⟨s - (TL.numL u.natAbs).length, by omega⟩
    rw [hk, List.replicate_succ]
    rfl
  · have e : dF u s = TL.numL u.natAbs := by
      unfold dF
      rw [show s + 1 - (TL.numL u.natAbs).length = 0 by omega]
      rfl
    rw [e]
    rcases numL_hd u.natAbs with z | z
    · left
      rw [z] at h ⊢
      have e0 : TL.numL 0 = [48] := TL.numL_lt (by decide)
      rw [e0] at h ⊢
      have : s = 0 := by have : ¬ (1 ≤ s) := h; omega
      subst this
      rfl
    · right
      obtain ⟨k, hk⟩ : ∃ k, (TL.numL u.natAbs).length - s = k + 1 := ⟨(TL.numL u.natAbs).length - s - 1, by omega⟩
      rw [hk]
      cases hx : TL.numL u.natAbs with
      | nil => exact absurd hx (TL.numL_ne _)
      | cons a r =>
        rw [hx] at z
        have z' : a ≠ 48 := z
        rw [List.take_succ_cons]
        show (!decide (a = 48)) = true
        rw [decide_eq_false z']; rfl
theorem dig_no {l : List Nat} (h : NumText.AllDigits l) {c : Nat} (hc : c < 48) : c ∉ l := fun m => by have := h c m; omega
theorem dT_neg (u : Int) (s : Nat) : isNeg (dT u s) = decide (u < 0) := by
  unfold isNeg dT
  by_cases h : u < 0
  · rw [if_pos h, decide_eq_true h]; rfl
  · rw [if_neg h, decide_eq_false h, List.nil_append]
    refine decide_eq_false fun e => ?_
    have hl := dF_len u s
    have m : (45 : Nat) ∈ dF u s := by
      split at e
      · exact List.mem_of_head? e
      · rename_i h0
        rw [List.append_assoc, List.head?_append] at e
        cases hx : ((dF u s).take ((dF u s).length - s)).head? with
        | none =>
          have : (dF u s).take ((dF u s).length - s) = [] := List.head?_eq_none_iff.mp hx
          have := congrArg List.length this
          rw [List.length_take, List.length_nil] at this
          omega
        | some a =>
          rw [hx] at e
          cases e
          exact List.mem_of_mem_take (List.mem_of_head? hx)
    exact dig_no (dF_dig u s) (by decide) m
theorem dT_body (u : Int) (s : Nat) : bodyOf (dT u s) = if s = 0 then dF u s else (dF u s).take ((dF u s).length - s) ++ 46 :: (dF u s).drop ((dF u s).length - s) := by
  unfold bodyOf
  rw [dT_neg]
  have e : ∀ a b : List Nat, a ++ [46] ++ b = a ++ 46 :: b := fun a b => by rw [List.append_assoc]; rfl
  by_cases h : u < 0
  · rw [if_pos (decide_eq_true h)]
    unfold dT
    rw [if_pos h, e]
    rfl
  · rw [if_neg (by rw [decide_eq_false h]; exact Bool.false_ne_true)]
    unfold dT
    rw [if_neg h, e]
    rfl
/-- the read-back -/
theorem spell_dT {u : Int} {s : Nat} (hd : MD.Dec u s) (hl : (dF u s).length ≤ 18) : spell (dT u s) = some (u, s) := by
  have hs : sgn (decide (u < 0)) u.natAbs = u := by
    unfold sgn
    by_cases h : u < 0
    · rw [if_pos (decide_eq_true h)]; omega
    · rw [if_neg (by rw [decide_eq_false h]; exact Bool.false_ne_true)]; omega
  unfold spell
  rw [dT_neg, dT_body]
  by_cases h0 : s = 0
  · subst h0
    rw [if_pos rfl]
    obtain ⟨e1, e2⟩ := cut_of_none (dig_no (dF_dig u 0) (show 46 < 48 by decide))
    rw [e1, e2]
    have hw := dF_whole u 0
    rw [Nat.sub_zero, List.take_length] at hw
    rw [spellB_none, if_pos ⟨hw, hl⟩, dF_val, hs]
  · rw [if_neg h0]
    obtain ⟨e1, e2⟩ := cut_of (c := 46) (p := (dF u s).take ((dF u s).length - s)) (q := (dF u s).drop ((dF u s).length - s)) fun m => dig_no (dF_dig u s) (show 46 < 48 by decide) (List.mem_of_mem_take m)
    rw [e1, e2]
    have len := dF_len u s
    have hf : figs ((dF u s).drop ((dF u s).length - s)) = true := all_figs (fun c hc => dF_dig u s c (List.mem_of_mem_drop hc)) fun e => by
      have := congrArg List.length e
      rw [List.length_drop, List.length_nil] at this
      omega
    rw [spellB_some, if_pos ⟨dF_whole u s, hf, by rw [List.length_take, List.length_drop]; omega⟩, List.take_append_drop, dF_val, hs, List.length_drop, show (dF u s).length - ((dF u s).length - s) = s by omega, MD.nrm_self hd]
/-- the figures alone -/
theorem dT_figs (u : Int) (s : Nat) : (((dT u s).filter (fun x => !decide (x = 45))).filter (fun x => !decide (x = 46))).length = (dF u s).length := by
  have key : ∀ l : List Nat, NumText.AllDigits l → (l.filter (fun x => !decide (x = 45))).filter (fun x => !decide (x = 46)) = l := fun l h => by
    rw [List.filter_filter]
    refine List.filter_eq_self.mpr fun x hx => ?_
    have := h x hx
    simp; omega
  have kd := dF_dig u s
  have e : ((dT u s).filter (fun x => !decide (x = 45))).filter (fun x => !decide (x = 46)) = dF u s := by
    unfold dT
    rw [List.filter_append, List.filter_append]
    have e1 : (((if u < 0 then [45] else [] : List Nat)).filter (fun x => !decide (x = 45))).filter (fun x => !decide (x = 46)) = [] := by split <;> rfl
    rw [e1, List.nil_append]
    split
    · exact key _ kd
    · rw [List.filter_append, List.filter_append, List.filter_append, List.filter_append, key _ (fun c hc => kd c (List.mem_of_mem_take hc)), key _ (fun c hc => kd c (List.mem_of_mem_drop hc))]
      rw [show ([46] : List Nat).filter (fun x => !decide (x = 45)) = [46] from rfl, show ([46] : List Nat).filter (fun x => !decide (x = 46)) = [] from rfl, List.append_nil, List.take_append_drop]
  rw [e]
end MT
namespace MT
open PySem PySem.Spec PyProof.Rows L2 MW
open SX (S)
theorem starts_S {c : Nat} {l : List Nat} : Txt.startswith (S l) (S [c]) = decide (l.head? = some c) := by
  unfold Txt.startswith
  have h := StrLaws.subAt_one (S l) c 0
  have e : (S l).cps.toList[0]? = l.head? := by rw [List.head?_eq_getElem?]
  rw [e] at h
  rw [Bool.eq_iff_iff, Bool.and_eq_true, decide_eq_true_eq, decide_eq_true_eq]
  exact h
theorem spell_def (l : List Nat) : spell l = spellB (isNeg l) (cutW 46 (bodyOf l)) (cutR 46 (bodyOf l)) := rfl
theorem body_len (l : List Nat) : (bodyOf l).length ≤ l.length := by
  unfold bodyOf
  split
  · rw [List.length_drop]; omega
  · exact Nat.le_refl _
theorem body_mem {l : List Nat} {c : Nat} (h : c ∈ bodyOf l) : c ∈ l := by
  unfold bodyOf at h
  split at h
  · exact List.mem_of_mem_drop h
  · exact h
theorem cutW_mem {k : Nat} {l : List Nat} {c : Nat} (h : c ∈ cutW k l) : c ∈ l := (List.takeWhile_sublist _).subset h
theorem cutR_mem {k : Nat} {l r : List Nat} (e : cutR k l = some r) {c : Nat} (h : c ∈ r) : c ∈ l := by
  rw [cut_some e]
  exact List.mem_append_right _ (List.mem_cons_of_mem _ h)
theorem cutR_len {k : Nat} {l r : List Nat} (e : cutR k l = some r) : (cutW k l).length + 1 + r.length = l.length := by
  have := congrArg List.length (cut_some e)
  rw [List.length_append, List.length_cons] at this
  omega
/-- figures == text -/
theorem body_eq (l : List Nat) : decide (bodyOf l = l) = !isNeg l := by
  unfold bodyOf
  cases h : isNeg l with
  | true =>
    rw [if_pos rfl]
    refine decide_eq_false fun e => ?_
    have h := of_decide_eq_true h
    cases l with
    | nil => cases h
    | cons a r => have := congrArg List.length e; simp at this
  | false => rw [if_neg Bool.false_ne_true]; exact decide_eq_true rfl
end MT
namespace MT
open PySem PySem.Spec PyProof.Rows L2 MW
open SX (S)
/-- more than one point -/
theorem not_figs {f : List Nat} {c : Nat} (h : c ∈ f) (hc : c < 48) : figs f = false := by
  cases e : figs f with
  | false => rfl
  | true =>
    have := List.all_eq_true.mp (figs_all e).2 c h
    rw [Bool.and_eq_true, decide_eq_true_eq] at this
    omega
theorem cutR_in {c : Nat} {l r : List Nat} (e : cutR c l = some r) : c ∈ l := by
  rw [cut_some e]
  exact List.mem_append_right _ (List.mem_cons_self ..)
theorem spl_len2 {c : Nat} (l : List Nat) : (TL.spl [c] 0 [] l).length = 1 ↔ cutR c l = none := by
  cases h : cutR c l with
  | none => rw [spl_none h]; simp
  | some r =>
    rw [spl_some h]
    have := spl_ne (c := c) r
    simp only [List.length_cons]
    exact ⟨fun e => by omega, fun e => by cases e⟩
/-- the law's reader, by the parts -/
def readP (neg : Bool) (ps : List (List Nat)) : Option (Int × Nat) :=
  if ps.length > 2 ∨ ps.flatten.length > 18 then none else
  if ps.all figs = false then none else
  if (ps.headD []).length > 1 ∧ (ps.headD []).headD 0 = 48 then none else
  some (MD.nrm (sgn neg (NumText.digitsVal ps.flatten)) (if ps.length = 2 then (ps.getD 1 []).length else 0))
theorem whole_iff (w : List Nat) : whole w = (figs w && !decide (w.length > 1 ∧ w.headD 0 = 48)) := by
  unfold whole
  cases hf : figs w with
  | false => rfl
  | true =>
    rw [Bool.true_and, Bool.true_and]
    have hne := (figs_all hf).1
    cases w with
    | nil => exact absurd rfl hne
    | cons a r =>
      cases r with
      | nil =>
        show (decide ([a] = [48]) || !decide (a = 48)) = !decide ((1 : Nat) > 1 ∧ a = 48)
        by_cases h : a = 48
        · subst h; rfl
        · rw [decide_eq_false (show ¬ [a] = [48] from fun e => h (by simpa using e)), decide_eq_false h, decide_eq_false (fun z => h z.2)]; rfl
      | cons b r =>
        show (decide (a :: b :: r = [48]) || !decide (a = 48)) = !decide ((a :: b :: r).length > 1 ∧ a = 48)
        rw [decide_eq_false (show ¬ a :: b :: r = [48] from fun e => by simp at e), Bool.false_or]
        congr 1
        congr 1
        exact propext ⟨fun h => ⟨by simp, h⟩, fun h => h.2⟩
theorem read_spell (neg : Bool) (b : List Nat) : spellB neg (cutW 46 b) (cutR 46 b) = readP neg (TL.spl [46] 0 [] b) := by
  cases h : cutR 46 b with
  | none =>
    rw [spl_none h, (cut_none h).1, spellB_none]
    unfold readP
    have e1 : [b].flatten = b := by simp
    have e2 : [b].all figs = figs b := by simp
    rw [e1, e2]
    show _ = if ((1 : Nat) > 2 ∨ b.length > 18) then none else _
    by_cases hl : b.length > 18
    · rw [if_neg (fun z => by have := z.2; omega), if_pos (.inr hl)]
    · rw [if_neg (show ¬ ((1 : Nat) > 2 ∨ b.length > 18) from fun z => z.elim (fun z => by omega) hl)]
      rw [whole_iff]
      cases hf : figs b with
      | false => rw [if_neg (fun z => by cases z.1), if_pos rfl]
      | true =>
        rw [if_neg (show ¬ (true = false) by simp)]
        show _ = if b.length > 1 ∧ b.headD 0 = 48 then none else some (MD.nrm (sgn neg (NumText.digitsVal b)) 0)
        by_cases hz : b.length > 1 ∧ b.headD 0 = 48
        · rw [if_neg (fun z => by rw [decide_eq_true hz] at z; cases z.1), if_pos hz]
        · rw [if_neg hz, if_pos ⟨by rw [decide_eq_false hz]; rfl, by omega⟩]
          rfl
  | some f =>
    rw [spl_some h, spellB_some]
    cases h2 : cutR 46 f with
    | some g =>
      rw [spl_some h2]
      have hn := not_figs (cutR_in h2) (by decide)
      rw [if_neg (fun z => by rw [hn] at z; cases z.2.1)]
      unfold readP
      rw [if_pos (.inl (by have := spl_ne (c := 46) g; simp only [List.length_cons]; omega))]
    | none =>
      rw [spl_none h2]
      unfold readP
      have e1 : [cutW 46 b, f].flatten = cutW 46 b ++ f := by simp
      have e2 : [cutW 46 b, f].all figs = (figs (cutW 46 b) && figs f) := by simp
      rw [e1, e2]
      show _ = if ((2 : Nat) > 2 ∨ (cutW 46 b ++ f).length > 18) then none else _
      generalize cutW 46 b = w
      rw [List.length_append]
      by_cases hl : w.length + f.length > 18
      · rw [if_neg (fun z => by have := z.2; omega), if_pos (.inr hl)]
      · rw [if_neg (show ¬ ((2 : Nat) > 2 ∨ w.length + f.length > 18) from fun z => z.elim (fun z => by omega) hl), whole_iff]
        cases hf : figs f with
        | false => rw [if_neg (fun z => by cases z.2.1), if_pos (by simp)]
        | true =>
          cases hw : figs w with
          | false => rw [if_neg (fun z => by cases z.1), if_pos (show (false && true) = false from rfl)]
          | true =>
            rw [if_neg (show ¬ ((true && true) = false) by simp)]
            show _ = if w.length > 1 ∧ w.headD 0 = 48 then none else some (MD.nrm (sgn neg (NumText.digitsVal (w ++ f))) f.length)
            by_cases hz : w.length > 1 ∧ w.headD 0 = 48
            · rw [if_neg (fun z => by rw [decide_eq_true hz] at z; cases z.1), if_pos hz]
            · rw [if_neg hz, if_pos ⟨by rw [decide_eq_false hz]; rfl, rfl, by omega⟩]
end MT
namespace MT
open PySem PySem.Spec PyProof.Rows L2 MW
open SX (S)
theorem repl_dash (l : List Nat) : Txt.replace (S l) ("-" : Str) ("" : Str) = S (l.filter (fun x => !decide (x = 45))) := by
  have e1 : ("-" : Str) = S [45] := by decide +kernel
  have e2 : ("" : Str) = S [] := by decide +kernel
  rw [e1, e2]; exact repl_S (by decide) l
theorem repl_dot (l : List Nat) : Txt.replace (S l) ("." : Str) ("" : Str) = S (l.filter (fun x => !decide (x = 46))) := by
  have e1 : ("." : Str) = S [46] := by decide +kernel
  have e2 : ("" : Str) = S [] := by decide +kernel
  rw [e1, e2]; exact repl_S (by decide) l
theorem empty_len : ("" : Str).length = 0 := by decide +kernel
theorem dF_le {u : Int} {s : Nat} (hu : u.natAbs ≤ 10 ^ 18) (hs : s ≤ 18) : (dF u s).length ≤ 19 := by
  have := TL.numL_len (k := 19) (by decide) (show u.natAbs < 10 ^ 19 from Nat.lt_of_le_of_lt hu (by decide))
  unfold dF
  rw [List.length_append, List.length_replicate]
  omega
theorem dT_ok {u : Int} {s : Nat} (hu : u.natAbs ≤ 10 ^ 18) (hs : s ≤ 18) : (dT u s).length ≤ 21 ∧ ∀ c ∈ dT u s, c < 128 := by
  have hl := dF_le hu hs
  have kd := dF_dig u s
  have kd' : ∀ c ∈ dF u s, c < 128 := fun c h => by have := kd c h; omega
  unfold dT
  constructor
  · rw [List.length_append]
    have e1 : (if u < 0 then [45] else [] : List Nat).length ≤ 1 := by split <;> decide
    have e2 : (if s = 0 then dF u s else (dF u s).take ((dF u s).length - s) ++ [46] ++ (dF u s).drop ((dF u s).length - s) : List Nat).length ≤ 20 := by
      split
      · omega
      · rw [List.length_append, List.length_append, List.length_take, List.length_drop]
        show _ + 1 + _ ≤ _
        omega
    omega
  · intro c hc
    rcases List.mem_append.mp hc with h | h
    · split at h
      · rw [List.mem_singleton.mp h]; decide
      · cases h
    · split at h
      · exact kd' c h
      · rcases List.mem_append.mp h with h | h
        · rcases List.mem_append.mp h with h | h
          · exact kd' c (List.mem_of_mem_take h)
          · rw [List.mem_singleton.mp h]; decide
        · exact kd' c (List.mem_of_mem_drop h)
end MT

namespace MR
open PySem PySem.Spec PyProof.Rows L2 MW MT
open SX (S)
/-! ### text.find(c, at) -/
theorem occ_full (s sub : Str) (hi : Nat) : ∀ (l : List Nat) (st : Array Nat × Nat), 1 ≤ st.fst.size → (forIn l st (StrLaws.occBody s sub hi 1)).run.fst = st.fst
  | [], st, _ => rfl
  | a :: l, st, h => by
    rw [List.forIn_cons]
    unfold StrLaws.occBody
    rw [if_neg (fun z => by have := z.1.1.1; omega)]
    exact occ_full s sub hi l _ h
theorem occ_first (s sub : Str) (hi : Nat) : ∀ (l : List Nat) (free : Nat), (∀ i ∈ l, free ≤ i) →
    (forIn l ((#[] : Array Nat), free) (StrLaws.occBody s sub hi 1)).run.fst.toList = (match l.find? (fun i => decide (i + sub.length ≤ hi ∧ Builtin.Str.subAt s sub i = true)) with | none => [] | some i => [i])
  | [], free, _ => rfl
  | a :: l, free, hf => by
    rw [List.forIn_cons]
    have ha : free ≤ a := hf a (List.mem_cons_self ..)
    by_cases hc : a + sub.length ≤ hi ∧ Builtin.Str.subAt s sub a = true
    · rw [List.find?_cons_of_pos (by simpa using hc)]
      unfold StrLaws.occBody
      rw [if_pos ⟨⟨⟨by simp, ha⟩, hc.1⟩, hc.2⟩]
      have := occ_full s sub hi l ((#[] : Array Nat).push a, a + sub.length) (by simp)
      show (forIn l ((#[] : Array Nat).push a, a + sub.length) (StrLaws.occBody s sub hi 1)).run.fst.toList = [a]
      rw [this]
      rfl
    · rw [List.find?_cons_of_neg (by simpa using hc)]
      unfold StrLaws.occBody
      rw [if_neg (fun h => hc ⟨h.1.2, h.2⟩)]
      exact occ_first s sub hi l free (fun i hi' => hf i (List.mem_cons_of_mem _ hi'))
theorem cut_consEq {c : Nat} {r : List Nat} : cutW c (c :: r) = [] ∧ cutR c (c :: r) = some r := cut_of (p := []) (fun h => by cases h)
theorem cut_consNe {c x : Nat} {r : List Nat} (h : x ≠ c) : cutW c (x :: r) = x :: cutW c r ∧ cutR c (x :: r) = cutR c r := by
  unfold cutW cutR
  rw [List.takeWhile_cons_of_pos (by simp [h]), List.dropWhile_cons_of_pos (by simp [h])]
  exact ⟨rfl, rfl⟩
theorem find_drop (c : Nat) (l : List Nat) : ∀ n lo, lo + n = l.length + 1 → (List.range' lo n).find? (fun i => decide (l[i]? = some c)) = (match cutR c (l.drop lo) with | none => none | some _ => some (lo + (cutW c (l.drop lo)).length))
  | 0, lo, h => by
    rw [List.drop_eq_nil_of_le (by omega)]
    rfl
  | n + 1, lo, h => by
    rw [List.range'_succ]
    by_cases hl : lo < l.length
    · rw [List.drop_eq_getElem_cons hl]
      by_cases hx : l[lo] = c
      · rw [List.find?_cons_of_pos (by rw [List.getElem?_eq_getElem hl, hx]; simp), hx, cut_consEq.1, cut_consEq.2]
        rfl
      · rw [List.find?_cons_of_neg (by rw [List.getElem?_eq_getElem hl]; simp [hx]), (cut_consNe hx).1, (cut_consNe hx).2, find_drop c l n (lo + 1) (by omega)]
        cases cutR c (l.drop (lo + 1)) with
        | none => rfl
        | some r => show some _ = some _; rw [List.length_cons]; congr 1; omega
    · rw [List.find?_cons_of_neg (by rw [List.getElem?_eq_none (by omega)]; simp), find_drop c l n (lo + 1) (by omega), List.drop_eq_nil_of_le (by omega), List.drop_eq_nil_of_le (by omega)]
      rfl
theorem find_S (c : Nat) (l : List Nat) (at0 : Nat) (h : at0 ≤ l.length) : Txt.find3 (S l) (S [c]) (at0 : Int) = (match cutR c (l.drop at0) with | none => -1 | some _ => ((at0 + (cutW c (l.drop at0)).length : Nat) : Int)) := by
  unfold Txt.find3
  have e0 : fromIndex (S l).length (at0 : Int) = at0 := by
    unfold fromIndex
    rw [if_neg (by omega)]
    omega
  rw [e0, StrLaws.occ_eq, occ_first _ _ _ _ _ (fun i hi => by have := List.mem_range'.mp hi; obtain ⟨k, _, e⟩ := this; omega)]
  have e1 : (fun i => decide (i + (S [c]).length ≤ (S l).length ∧ Builtin.Str.subAt (S l) (S [c]) i = true)) = (fun i => decide (l[i]? = some c)) := by
    funext i
    congr 1
    exact propext (StrLaws.subAt_one (S l) c i)
  rw [e1, SX.S_len, find_drop c l _ at0 (by omega)]
  cases cutR c (l.drop at0) with
  | none => rfl
  | some r => rfl
/-! ### lstrip of one sign -/
theorem dw_eq {c : Nat} : ∀ l : List Nat, (∃ k, l = List.replicate k c ++ l.dropWhile (· == c)) 
  | [] => ⟨0, rfl⟩
  | x :: l => by
    by_cases h : x = c
    · subst h
      obtain ⟨k, e⟩ := dw_eq (c := x) l
      refine ⟨k + 1, ?_⟩
      rw [List.dropWhile_cons_of_pos (by simp), List.replicate_succ, List.cons_append, ← e]
    · exact ⟨0, by rw [List.dropWhile_cons_of_neg (by simp [h])]; rfl⟩
/-! ### the spread row -/
def okC (w : List Nat) : Bool := figs w && (decide (w.length ≤ 2) && !decide (w.headD 0 = 48))
def cnt (r : List Nat) : Option (Nat × Nat) :=
  if r.head? = some 40 then
    match cutR 41 (r.drop 1) with
    | none => none
    | some _ => if okC (cutW 41 (r.drop 1)) = true then some (NumText.digitsVal (cutW 41 (r.drop 1)), (cutW 41 (r.drop 1)).length + 2) else none
  else some (1, 0)
def spr : Nat → List Nat → Option (List Nat)
  | 0, l => if l = [] then some [] else none
  | _ + 1, [] => some []
  | n + 1, m :: r => match cnt r with
    | none => none
    | some (c, k) => (spr n (r.drop k)).map (List.replicate c m ++ ·)
theorem spr_nil (n : Nat) : spr n [] = some [] := by cases n <;> rfl
theorem spr_fuel : ∀ (n m : Nat) (l : List Nat), l.length ≤ n → l.length ≤ m → spr n l = spr m l
  | _, _, [], _, _ => by rw [spr_nil, spr_nil]
  | 0, _, _ :: _, h, _ => absurd h (by simp)
  | _, 0, _ :: _, _, h => absurd h (by simp)
  | n + 1, m + 1, x :: r, hn, hm => by
    show (match cnt r with | none => none | some (c, k) => (spr n (r.drop k)).map (List.replicate c x ++ ·)) = (match cnt r with | none => none | some (c, k) => (spr m (r.drop k)).map (List.replicate c x ++ ·))
    cases cnt r with
    | none => rfl
    | some ck =>
      obtain ⟨c, k⟩ := ck
      show (spr n (r.drop k)).map _ = (spr m (r.drop k)).map _
      rw [spr_fuel n m (r.drop k) (by rw [List.length_drop]; simp at hn; omega) (by rw [List.length_drop]; simp at hm; omega)]
def spread (l : List Nat) : Option (List Nat) := spr l.length l
theorem spread_nil : spread [] = some [] := rfl
theorem spread_cons (x : Nat) (r : List Nat) : spread (x :: r) = match cnt r with
    | none => none
    | some (c, k) => (spread (r.drop k)).map (List.replicate c x ++ ·) := by
  show (match cnt r with | none => none | some (c, k) => (spr r.length (r.drop k)).map (List.replicate c x ++ ·)) = _
  cases cnt r with
  | none => rfl
  | some ck =>
    obtain ⟨c, k⟩ := ck
    show (spr r.length (r.drop k)).map _ = (spr (r.drop k).length (r.drop k)).map _
    rw [spr_fuel r.length (r.drop k).length (r.drop k) (by rw [List.length_drop]; omega) (Nat.le_refl _)]
theorem digits2 {w : List Nat} (h : okC w = true) : NumText.digitsVal w ≤ 99 := by
  unfold okC at h
  rw [Bool.and_eq_true, Bool.and_eq_true, decide_eq_true_eq] at h
  have hf := (figs_all h.1).2
  match w, h.2.1, hf with
  | [], _, _ => decide
  | [a], _, hf =>
    have := List.all_eq_true.mp hf a (by simp)
    rw [Bool.and_eq_true, decide_eq_true_eq, decide_eq_true_eq] at this
    show 0 * 10 + (a - 48) ≤ 99
    omega
  | [a, b], _, hf =>
    have h1 := List.all_eq_true.mp hf a (by simp)
    have h2 := List.all_eq_true.mp hf b (by simp)
    rw [Bool.and_eq_true, decide_eq_true_eq, decide_eq_true_eq] at h1 h2
    show (0 * 10 + (a - 48)) * 10 + (b - 48) ≤ 99
    omega
theorem cnt_le {r : List Nat} {c k : Nat} (h : cnt r = some (c, k)) : c ≤ 99 ∧ k ≤ r.length := by
  unfold cnt at h
  split at h
  · rename_i h40
    cases e : cutR 41 (r.drop 1) with
    | none => rw [e] at h; cases h
    | some q =>
      rw [e] at h
      by_cases ho : okC (cutW 41 (r.drop 1)) = true
      · rw [show (match some q with | none => none | some _ => if okC (cutW 41 (r.drop 1)) = true then some (NumText.digitsVal (cutW 41 (r.drop 1)), (cutW 41 (r.drop 1)).length + 2) else none) = some (NumText.digitsVal (cutW 41 (r.drop 1)), (cutW 41 (r.drop 1)).length + 2) from if_pos ho] at h
        cases h
        refine ⟨digits2 ho, ?_⟩
        have := cutR_len e
        rw [List.length_drop] at this
        omega
      · rw [show (match some q with | none => none | some _ => if okC (cutW 41 (r.drop 1)) = true then some (NumText.digitsVal (cutW 41 (r.drop 1)), (cutW 41 (r.drop 1)).length + 2) else none) = none from if_neg ho] at h
        cases h
  · cases h
    exact ⟨by decide, Nat.zero_le _⟩
theorem spread_len : ∀ (n : Nat) (l row : List Nat), l.length ≤ n → spread l = some row → row.length ≤ 99 * l.length
  | _, [], row, _, h => by rw [spread_nil] at h; cases h; exact Nat.zero_le _
  | 0, x :: r, _, hn, _ => absurd hn (by simp)
  | n + 1, x :: r, row, hn, h => by
    rw [spread_cons] at h
    cases e : cnt r with
    | none => rw [e] at h; cases h
    | some ck =>
      obtain ⟨c, k⟩ := ck
      rw [e] at h
      have h : (spread (r.drop k)).map (List.replicate c x ++ ·) = some row := h
      cases e2 : spread (r.drop k) with
      | none => rw [e2] at h; cases h
      | some q =>
        rw [e2] at h
        cases h
        have h1 := spread_len n (r.drop k) q (by rw [List.length_drop]; simp at hn; omega) e2
        have h2 := (cnt_le e).1
        rw [List.length_drop] at h1
        rw [List.length_append, List.length_replicate, List.length_cons]
        have : 99 * (r.length - k) ≤ 99 * r.length := Nat.mul_le_mul_left _ (by omega)
        omega
end MR
namespace MR
open PySem PySem.Spec PyProof.Rows L2 MW MT
open SX (S)
/-! ### the program's reading, written out -/
def allM (c : Nat) (l : List Nat) : Bool := l.all (fun x => decide (x = c))
theorem rep_iff {c : Nat} {l : List Nat} : decide (l = List.replicate l.length c) = allM c l := by
  unfold allM
  rw [Bool.eq_iff_iff, decide_eq_true_eq, List.all_eq_true]
  constructor
  · intro h x hx
    rw [h] at hx
    exact decide_eq_true (List.eq_of_mem_replicate hx)
  · intro h
    exact List.eq_replicate_of_mem fun x hx => of_decide_eq_true (h x hx)
def numP (l : List Nat) : Option MP.Pic :=
  let sg := decide (l.head? = some 115)
  let b := if sg = true then l.drop 1 else l
  if cutR 118 b = some [] then none else
  if allM 57 (cutW 118 b ++ (cutR 118 b).getD []) = true ∧ 1 ≤ (cutW 118 b ++ (cutR 118 b).getD []).length ∧ (cutW 118 b ++ (cutR 118 b).getD []).length ≤ 18
  then some (.num sg (cutW 118 b).length ((cutR 118 b).getD []).length) else none
def INS : List Nat := [44, 98, 48, 47]
def dig (a : List Nat) : List Nat := a.filter (fun x => !decide (x ∈ INS))
def wh (d : List Nat) : List Nat := if d.head? = some 122 then d.dropWhile (· == 122) else d.dropWhile (· == 42)
def edP (m sign : List Nat) : Option MP.Pic :=
  let A := cutW 46 m
  let B := (cutR 46 m).getD []
  if ¬ (m.take 1 ∈ [[122], [42], [57]]) ∨ allM 57 (wh (dig A)) = false then none else
  if allM 57 B = false ∨ cutR 46 m = some [] then none else
  if (dig A).length + B.length > 18 then none else
  if sign = [] ∧ allM 57 m = true then none else
  some (.ed m (dig A).length B.length sign)
def last1 (l : List Nat) : Nat := (l.getLast?).getD 0
def partP (l : List Nat) : List Nat × List Nat :=
  if l.headD 0 = 45 ∨ l.headD 0 = 43 then (l.drop 1, [l.headD 0])
  else if last1 l = 45 ∨ last1 l = 43 then (l.take (l.length - 1), [46, last1 l])
  else if l.drop (l.length - 2) = [99, 114] ∨ l.drop (l.length - 2) = [100, 98] then (l.take (l.length - 2), l.drop (l.length - 2))
  else (l, [])
inductive Res where
  | txt (n : Nat)
  | pic (p : MP.Pic)
def Res.vs : Res → List V
  | .txt n => [.str (S [116, 101, 120, 116]), .int (n : Int)]
  | .pic p => p.vs
/-- of the spread row -/
def rowP (row : List Nat) : Option Res :=
  if 1 ≤ row.length ∧ row.length ≤ 80 then
    if allM 120 row = true then some (.txt row.length) else
    match numP row with
    | some p => some (.pic p)
    | none => (edP (partP row).1 (partP row).2).map .pic
  else none
def readPic (l : List Nat) : Option Res := match spread l with
  | none => none
  | some row => rowP row
/-- a picture or none comes back -/
def RetO (o : Option MP.Pic) (H : Hp) (Q : VK) : Prop := (o = none → WP.RetV .non H Q) ∧ ∀ p, o = some p → WP.RetT p.vs H Q
theorem drop_tw {p : Nat → Bool} (l : List Nat) : l.drop (l.takeWhile p).length = l.dropWhile p := by
  have e := List.takeWhile_append_dropWhile (p := p) (l := l)
  have : (l.takeWhile p ++ l.dropWhile p).drop (l.takeWhile p).length = l.dropWhile p := List.drop_left
  rw [e] at this
  exact this
theorem lstrip_S {c : Nat} {l : List Nat} : Txt.lstripChars (S l) (S [c]) = S (l.dropWhile (· == c)) := by
  unfold Txt.lstripChars
  rw [PyProof.Rows.stripBy_eq]
  have e1 : stripLo (S [c]).cps.contains true (S l) = (l.takeWhile (· == c)).length := by
    unfold stripLo
    rw [if_pos rfl]
    congr 2
    funext x
    show #[c].contains x = (x == c)
    rw [Array.contains_eq_mem]
    by_cases h : x = c
    · subst h; simp
    · rw [beq_eq_false_iff_ne.mpr h]; simp [h]
  have e2 : stripHi (S [c]).cps.contains false (S l) (stripLo (S [c]).cps.contains true (S l)) = l.length := by
    unfold stripHi
    rw [if_neg Bool.false_ne_true, SX.S_len]
  rw [e2, e1, PyProof.Rows.strSub_mk]
  show S ((l.drop _).take (l.length - _)) = _
  rw [List.take_of_length_le (by rw [List.length_drop]; omega), drop_tw]
end MR
namespace MR
open PySem PySem.Spec PyProof.Rows L2 MW MT
open SX (S)
def lawOut (l : List Nat) : List Nat := match spread l with
  | none => []
  | some row => if row.length ≤ 80 then row else []
theorem slice_m2 {l : List Nat} (h : 1 ≤ l.length) : Txt.slice (S l) (some (-2)) none = S (l.drop (l.length - 2)) := by
  by_cases h2 : 2 ≤ l.length
  · have := WP.slice_fromN (l := l) (i := -2) (by decide) (by omega)
    rw [this, show (-2 + (l.length : Int)).toNat = l.length - 2 by omega]
  · have hl : l.length = 1 := by omega
    have e : Txt.slice (S l) (some (-2)) none = Txt.slice (S l) (some 0) none := by
      unfold Txt.slice
      rw [SX.S_len, hl]
      rfl
    rw [e, SX.slice_from (by decide), hl]
    rfl
theorem m2 {l : List Nat} {H : Hp} {Q : VK} (h : 1 ≤ l.length) (hl : l.length ≤ sizeLine) (q : Q (.str (S (l.drop (l.length - 2)))) H) : rSlS (.str (S l)) (some (-2)) none H Q := WP.slS _ (by rw [SX.S_len]; exact hl) (by rw [slice_m2 h]; exact q)
theorem cnt_40 {q : List Nat} : cnt (40 :: q) = match cutR 41 q with
    | none => none
    | some _ => if okC (cutW 41 q) = true then some (NumText.digitsVal (cutW 41 q), (cutW 41 q).length + 2) else none := by
  unfold cnt
  rw [if_pos (show (40 :: q).head? = some 40 from rfl)]
  rfl
theorem cnt_no {r : List Nat} (h : r.head? ≠ some 40) : cnt r = some (1, 0) := by
  unfold cnt
  rw [if_neg h]
theorem RetO.none' {H H' : Hp} {Q : VK} {o : Option MP.Pic} (k : RetO o H Q) (e : Same H H') (h : o = none) : Q .non H' := k.1 h H' e
theorem RetO.some' {H H' : Hp} {Q : VK} {o : Option MP.Pic} {p : MP.Pic} (k : RetO o H Q) (e : Same H H') (h : o = some p) : ∀ t, H' t = none → Q (.ref t) (upd H' t (.tup p.vs)) := (k.2 p h).new e
end MR
namespace MR
theorem wh_len (d : List Nat) : (wh d).length ≤ d.length := by
  unfold wh
  split <;> exact (List.dropWhile_sublist _).length_le
theorem partP_len (l : List Nat) : (partP l).1.length ≤ l.length := by
  unfold partP
  split
  · show (l.drop 1).length ≤ _; rw [List.length_drop]; omega
  · split
    · show (l.take _).length ≤ _; rw [List.length_take]; omega
    · split
      · show (l.take _).length ≤ _; rw [List.length_take]; omega
      · exact Nat.le_refl _
end MR

namespace MR
open PySem PySem.Spec PyProof.Rows L2 MW MT
open SX (S)
/-! ### the law's count -/
def fg (c : Nat) : Bool := decide (c ∈ FIG)
def dn (q : List Nat) : Nat := min 3 (q.takeWhile fg).length
def lcnt (q : List Nat) : Option (Nat × Nat) :=
  if q.take (dn q) = [] ∨ (q.take (dn q)).length > 2 ∨ (q.take (dn q)).headD 0 = 48 ∨ (q.drop (dn q)).take 1 ≠ [41] then none else some (NumText.digitsVal (q.take (dn q)), (q.take (dn q)).length + 2)
theorem fg_no {c : Nat} (h : c < 48) : fg c = false := by
  unfold fg
  refine decide_eq_false fun m => ?_
  have : c = 48 ∨ c = 49 ∨ c = 50 ∨ c = 51 ∨ c = 52 ∨ c = 53 ∨ c = 54 ∨ c = 55 ∨ c = 56 ∨ c = 57 := by simpa [FIG] using m
  omega
theorem tw_app {w r : List Nat} (hw : ∀ c ∈ w, fg c = true) (hr : r.head?.all (fun c => !fg c) = true) : (w ++ r).takeWhile fg = w := by
  induction w with
  | nil =>
    cases r with
    | nil => rfl
    | cons a r =>
      have : fg a = false := by simpa using hr
      rw [List.nil_append, List.takeWhile_cons_of_neg (by rw [this]; exact Bool.false_ne_true)]
  | cons a w ih =>
    rw [List.cons_append, List.takeWhile_cons_of_pos (hw a (.head _)), ih fun c hc => hw c (.tail _ hc)]
theorem lcnt_eq (q : List Nat) : cnt (40 :: q) = lcnt q := by
  rw [cnt_40]
  have tw := List.takeWhile_append_dropWhile (p := fg) (l := q)
  have htw : ∀ c ∈ q.takeWhile fg, fg c = true := fun c hc => List.all_eq_true.mp List.all_takeWhile c hc
  by_cases hbad : q.take (dn q) = [] ∨ (q.take (dn q)).length > 2 ∨ (q.take (dn q)).headD 0 = 48 ∨ (q.drop (dn q)).take 1 ≠ [41]
  · have e : lcnt q = none := if_pos hbad
    rw [e]
    cases hc : cutR 41 q with
    | none => rfl
    | some rest =>
      show (if okC (cutW 41 q) = true then _ else none) = none
      refine if_neg fun ho => ?_
      have hq := cut_some hc
      unfold okC at ho
      rw [Bool.and_eq_true, Bool.and_eq_true, decide_eq_true_eq, Bool.not_eq_true', decide_eq_false_iff_not] at ho
      obtain ⟨hf, h2, h48⟩ := ho
      generalize cutW 41 q = w at hq hf h2 h48
      have hne := (figs_all hf).1
      have hwf : ∀ c ∈ w, fg c = true := fun c hcw => by
        unfold figs at hf
        rw [Bool.and_eq_true] at hf
        exact List.all_eq_true.mp hf.2 c hcw
      have etw : q.takeWhile fg = w := by
        rw [hq]
        exact tw_app hwf (by simp [fg_no (show 41 < 48 by decide)])
      have ed : dn q = w.length := by unfold dn; rw [etw]; omega
      rw [ed] at hbad
      have et : q.take w.length = w := by rw [hq]; exact List.take_left
      have edr : q.drop w.length = 41 :: rest := by rw [hq]; exact List.drop_left
      rw [et, edr] at hbad
      rcases hbad with h | h | h | h
      · exact hne h
      · omega
      · exact h48 h
      · exact h rfl
  · have hg : ¬ q.take (dn q) = [] ∧ ¬ (q.take (dn q)).length > 2 ∧ ¬ (q.take (dn q)).headD 0 = 48 ∧ (q.drop (dn q)).take 1 = [41] := by
      refine ⟨fun h => hbad (.inl h), fun h => hbad (.inr (.inl h)), fun h => hbad (.inr (.inr (.inl h))), ?_⟩
      exact Classical.byContradiction fun h => hbad (.inr (.inr (.inr h)))
    have e : lcnt q = some (NumText.digitsVal (q.take (dn q)), (q.take (dn q)).length + 2) := if_neg hbad
    rw [e]
    obtain ⟨g1, g2, g3, g4⟩ := hg
    obtain ⟨rest, hr⟩ : ∃ rest, q.drop (dn q) = 41 :: rest := by
      cases hx : q.drop (dn q) with
      | nil => rw [hx] at g4; simp at g4
      | cons a r => rw [hx] at g4; simp at g4; exact ⟨r, by rw [g4]⟩
    have hq : q = q.take (dn q) ++ 41 :: rest := by rw [← hr, List.take_append_drop]
    have hwf : ∀ c ∈ q.take (dn q), fg c = true := fun c hc => by
      have hpre : q.take (dn q) = (q.takeWhile fg).take (dn q) := by
        have hle : dn q ≤ (q.takeWhile fg).length := Nat.min_le_right _ _
        have h3 : (q.takeWhile fg ++ q.dropWhile fg).take (dn q) = (q.takeWhile fg).take (dn q) := List.take_append_of_le_length hle
        rw [tw] at h3
        exact h3
      rw [hpre] at hc
      exact htw c (List.mem_of_mem_take hc)
    generalize q.take (dn q) = w at *
    have n41 : 41 ∉ w := fun m => by have := hwf 41 m; rw [fg_no (by decide)] at this; cases this
    obtain ⟨c1, c2⟩ := cut_of (q := rest) n41
    rw [← hq] at c1 c2
    rw [c2, c1]
    show (if okC w = true then _ else none) = _
    rw [if_pos]
    unfold okC figs
    rw [decide_eq_false g1, show allIn w FIG = true from List.all_eq_true.mpr fun c hc => hwf c hc, decide_eq_true (show w.length ≤ 2 by omega), decide_eq_false g3]
    rfl
/-! ### the law's number -/
def lnum (sg : Bool) (ps : List (List Nat)) : Option MP.Pic :=
  if ps.length > 2 ∨ allIn ps.flatten [57] = false ∨ (ps.getLast?).getD [] = [] then none else
  if (ps.headD []).length + (if ps.length = 2 then (ps.getD 1 []).length else 0) ≤ 18 then some (.num sg (ps.headD []).length (if ps.length = 2 then (ps.getD 1 []).length else 0)) else none
theorem allM_in {c : Nat} {l : List Nat} : allIn l [c] = allM c l := by
  unfold allIn allM
  congr 1
  funext x
  congr 1
  simp
theorem numB (l : List Nat) : numP l = (let b := if decide (l.head? = some 115) = true then l.drop 1 else l; if cutR 118 b = some [] then none else
  if allM 57 (cutW 118 b ++ (cutR 118 b).getD []) = true ∧ 1 ≤ (cutW 118 b ++ (cutR 118 b).getD []).length ∧ (cutW 118 b ++ (cutR 118 b).getD []).length ≤ 18
  then some (.num (decide (l.head? = some 115)) (cutW 118 b).length ((cutR 118 b).getD []).length) else none) := rfl
theorem lnum_eq (sg : Bool) (b : List Nat) : (if cutR 118 b = some [] then none else
  if allM 57 (cutW 118 b ++ (cutR 118 b).getD []) = true ∧ 1 ≤ (cutW 118 b ++ (cutR 118 b).getD []).length ∧ (cutW 118 b ++ (cutR 118 b).getD []).length ≤ 18
  then some (MP.Pic.num sg (cutW 118 b).length ((cutR 118 b).getD []).length) else none) = lnum sg (TL.spl [118] 0 [] b) := by
  cases h : cutR 118 b with
  | none =>
    rw [spl_none h, (cut_none h).1, if_neg (by simp)]
    unfold lnum
    have e1 : [b].flatten = b := by simp
    rw [e1, allM_in]
    show _ = if ((1 : Nat) > 2 ∨ allM 57 b = false ∨ b = []) then none else if b.length + 0 ≤ 18 then some (MP.Pic.num sg b.length 0) else none
    rw [Option.getD_none, List.append_nil]
    by_cases hb : b = []
    · subst hb
      rw [if_neg (fun z => by have := z.2.1; simp at this), if_pos (.inr (.inr rfl))]
    · have hp := List.length_pos_iff.mpr hb
      cases ha : allM 57 b with
      | false => rw [if_neg (fun z => by cases z.1), if_pos (.inr (.inl rfl))]
      | true =>
        rw [if_neg (show ¬ ((1 : Nat) > 2 ∨ true = false ∨ b = []) from fun z => z.elim (fun z => by omega) (fun z => z.elim (fun z => by cases z) hb))]
        by_cases h18 : b.length ≤ 18
        · rw [if_pos ⟨rfl, hp, h18⟩, if_pos (by omega)]; rfl
        · rw [if_neg (fun z => h18 z.2.2), if_neg (by omega)]
  | some f =>
    rw [spl_some h]
    cases h2 : cutR 118 f with
    | some g =>
      have hin := cutR_in h2
      have hna : allM 57 (cutW 118 b ++ f) = false := by
        cases ha : allM 57 (cutW 118 b ++ f) with
        | false => rfl
        | true =>
          have := List.all_eq_true.mp ha 118 (List.mem_append_right _ hin)
          simp at this
      have hg : ¬ (some f = some ([] : List Nat)) := fun z => by
        have : f = [] := by simpa using z
        rw [this] at hin; cases hin
      rw [if_neg hg, Option.getD_some, if_neg (fun z => by rw [hna] at z; cases z.1)]
      unfold lnum
      rw [spl_some h2, if_pos (.inl (by have := spl_ne (c := 118) g; simp only [List.length_cons]; omega))]
    | none =>
      rw [spl_none h2]
      unfold lnum
      have e1 : [cutW 118 b, f].flatten = cutW 118 b ++ f := by simp
      rw [e1, allM_in, Option.getD_some]
      generalize cutW 118 b = w
      show _ = if ((2 : Nat) > 2 ∨ allM 57 (w ++ f) = false ∨ f = []) then none else if w.length + f.length ≤ 18 then some (MP.Pic.num sg w.length f.length) else none
      by_cases hf : f = []
      · subst hf
        rw [if_pos rfl, if_pos (.inr (.inr rfl))]
      · have hp := List.length_pos_iff.mpr hf
        rw [if_neg (show ¬ (some f = some ([] : List Nat)) from fun z => hf (by simpa using z))]
        cases ha : allM 57 (w ++ f) with
        | false => rw [if_neg (fun z => by cases z.1), if_pos (.inr (.inl rfl))]
        | true =>
          rw [if_neg (show ¬ ((2 : Nat) > 2 ∨ true = false ∨ f = []) from fun z => z.elim (fun z => by omega) (fun z => z.elim (fun z => by cases z) hf))]
          by_cases h18 : w.length + f.length ≤ 18
          · rw [if_pos ⟨rfl, by rw [List.length_append]; omega, by rw [List.length_append]; omega⟩, if_pos h18]
          · rw [if_neg (fun z => h18 (by have := z.2.2; rw [List.length_append] at this; exact this)), if_neg h18]
end MR
namespace MR
open PySem PySem.Spec PyProof.Rows L2 MW MT
open SX (S)
/-! ### the law's edited pictures -/
def Z3 : List Nat := [122, 42, 57]
def Z7 : List Nat := [122, 42, 57, 44, 98, 48, 47]
def mk3 (a : List Nat) : List Nat := a.filter (fun x => decide (x ∈ Z3))
def hidn (m : List Nat) : Nat := (m.filter (fun x => !decide (x = 57))).length
theorem z3_iff (c : Nat) : c ∈ Z3 ↔ c = 122 ∨ c = 42 ∨ c = 57 := by simp [Z3]
theorem ins_iff (c : Nat) : c ∈ INS ↔ c = 44 ∨ c = 98 ∨ c = 48 ∨ c = 47 := by simp [INS]
theorem z7_iff (c : Nat) : c ∈ Z7 ↔ c ∈ Z3 ∨ c ∈ INS := by rw [z3_iff, ins_iff]; simp [Z7, or_assoc]
theorem dw9 {c : Nat} (hc : c ≠ 57) {n : List Nat} (h : allM 57 n = true) : n.dropWhile (· == c) = n := by
  cases n with
  | nil => rfl
  | cons a r =>
    have : a = 57 := of_decide_eq_true (List.all_eq_true.mp h a (.head _))
    rw [List.dropWhile_cons_of_neg (by rw [this]; simp; omega)]
theorem dw_rep {c : Nat} (hc : c ≠ 57) {n : List Nat} (h : allM 57 n = true) : ∀ k, (List.replicate k c ++ n).dropWhile (· == c) = n
  | 0 => dw9 hc h
  | k + 1 => by rw [List.replicate_succ, List.cons_append, List.dropWhile_cons_of_pos (by simp), dw_rep hc h k]
theorem wh_shape {d : List Nat} (h : allM 57 (wh d) = true) : ∃ x k n, (x = 122 ∨ x = 42) ∧ d = List.replicate k x ++ n ∧ allM 57 n = true := by
  unfold wh at h
  split at h
  · obtain ⟨k, e⟩ := dw_eq (c := 122) d
    exact ⟨122, k, _, .inl rfl, e, h⟩
  · obtain ⟨k, e⟩ := dw_eq (c := 42) d
    exact ⟨42, k, _, .inr rfl, e, h⟩
theorem hid_shape {x k : Nat} {n : List Nat} (hx : x = 122 ∨ x = 42) (hn : allM 57 n = true) : hidn (List.replicate k x ++ n) = k := by
  unfold hidn
  rw [List.filter_append]
  have e1 : (List.replicate k x).filter (fun y => !decide (y = 57)) = List.replicate k x := List.filter_eq_self.mpr fun y hy => by
    rw [List.eq_of_mem_replicate hy]; rcases hx with rfl | rfl <;> rfl
  have e2 : n.filter (fun y => !decide (y = 57)) = [] := List.filter_eq_nil_iff.mpr fun y hy => by
    have := List.all_eq_true.mp hn y hy
    rw [this]; simp
  rw [e1, e2, List.append_nil, List.length_replicate]
/-- the two ways to look at the marks ahead of the point -/
def lawOk (A : List Nat) : Prop := allIn A Z7 = true ∧ (mk3 A).take (hidn (mk3 A)) = List.replicate (hidn (mk3 A)) ((mk3 A).headD 0) ∧ allM 57 ((mk3 A).drop (hidn (mk3 A))) = true
theorem dig_mk {A : List Nat} (h : allIn A Z7 = true) : dig A = mk3 A := by
  unfold dig mk3
  refine List.filter_congr fun x hx => ?_
  have hz := of_decide_eq_true (List.all_eq_true.mp h x hx)
  rw [z7_iff] at hz
  by_cases h1 : x ∈ Z3
  · rw [decide_eq_true h1, decide_eq_false (fun h2 => by rw [z3_iff] at h1; rw [ins_iff] at h2; omega)]; rfl
  · rw [decide_eq_false h1, decide_eq_true (hz.elim (fun z => absurd z h1) id)]; rfl
theorem ok_iff (A : List Nat) : (allM 57 (wh (dig A)) = true → lawOk A) ∧ (lawOk A → allM 57 (wh (dig A)) = true) := by
  constructor
  · intro h
    obtain ⟨x, k, n, hx, e, hn⟩ := wh_shape h
    have hd3 : ∀ a ∈ dig A, a ∈ Z3 := fun a ha => by
      rw [e] at ha
      rw [z3_iff]
      rcases List.mem_append.mp ha with z | z
      · rw [List.eq_of_mem_replicate z]; omega
      · have := of_decide_eq_true (List.all_eq_true.mp hn a z); omega
    have h7 : allIn A Z7 = true := List.all_eq_true.mpr fun a ha => decide_eq_true (by
      rw [z7_iff]
      by_cases hi : a ∈ INS
      · exact .inr hi
      · exact .inl (hd3 a (List.mem_filter.mpr ⟨ha, by rw [decide_eq_false hi]; rfl⟩)))
    have em := dig_mk h7
    rw [em] at e
    refine ⟨h7, ?_, ?_⟩
    · rw [e, hid_shape hx hn]
      rw [show (List.replicate k x ++ n).take k = List.replicate k x from by rw [List.take_append_of_le_length (by rw [List.length_replicate]; exact Nat.le_refl _), List.take_of_length_le (by rw [List.length_replicate]; exact Nat.le_refl _)]]
      cases k with
      | zero => rfl
      | succ k => rfl
    · rw [e, hid_shape hx hn]
      rw [List.drop_append_of_le_length (by rw [List.length_replicate]; exact Nat.le_refl _), List.drop_of_length_le (by rw [List.length_replicate]; exact Nat.le_refl _)]
      exact hn
  · rintro ⟨h7, h1, h2⟩
    rw [dig_mk h7]
    have h3 : ∀ a ∈ mk3 A, a ∈ Z3 := fun a ha => of_decide_eq_true (List.mem_filter.mp ha).2
    generalize hM : mk3 A = M at *
    have e : M = List.replicate (hidn M) (M.headD 0) ++ M.drop (hidn M) := by
      rw [← h1, List.take_append_drop]
    generalize hn : M.drop (hidn M) = n at *
    by_cases hH : hidn M = 0
    · rw [hH, List.replicate_zero, List.nil_append] at e
      unfold wh
      rw [e]
      split
      · rw [dw9 (by decide) h2]; exact h2
      · rw [dw9 (by decide) h2]; exact h2
    · obtain ⟨j, hj⟩ : ∃ j, hidn M = j + 1 := ⟨hidn M - 1, by omega⟩
      have hne : M ≠ [] := fun z => by rw [z] at hH; exact hH rfl
      obtain ⟨x, r, hxr⟩ : ∃ x r, M = x :: r := by
        cases M with
        | nil => exact absurd rfl hne
        | cons x r => exact ⟨x, r, rfl⟩
      have hx0 : M.headD 0 = x := by rw [hxr]; rfl
      rw [hx0] at e
      have hx3 := h3 x (by rw [hxr]; exact .head _)
      rw [z3_iff] at hx3
      have hx9 : x ≠ 57 := fun z => hH (by
        unfold hidn
        rw [List.filter_eq_nil_iff.mpr, List.length_nil]
        intro y hy
        rw [e] at hy
        have : y = 57 := by
          rcases List.mem_append.mp hy with q | q
          · rw [List.eq_of_mem_replicate q, z]
          · exact of_decide_eq_true (List.all_eq_true.mp h2 y q)
        rw [this]; simp)
      have hd : M.head? = some x := by rw [hxr]; rfl
      unfold wh
      rw [hd]
      rcases hx3 with rfl | rfl | rfl
      · rw [if_pos rfl, e, dw_rep (by decide) h2]; exact h2
      · rw [if_neg (by decide), e, dw_rep (by decide) h2]; exact h2
      · exact absurd rfl hx9
def ledB (m sign : List Nat) : Option MP.Pic :=
  let ps := TL.spl [46] 0 [] m
  if m = [] ∨ ¬ (m.headD 0 ∈ Z3) ∨ ps.length > 2 ∨ (ps.length = 2 ∧ ps.getD 1 [] = []) then none else
  if ps.length = 2 ∧ allIn (ps.getD 1 []) [57] = false then none else
  if allIn (ps.headD []) Z7 = false then none else
  if (mk3 (ps.headD [])).take (hidn (mk3 (ps.headD []))) ≠ List.replicate (hidn (mk3 (ps.headD []))) ((mk3 (ps.headD [])).headD 0) ∨ allIn ((mk3 (ps.headD [])).drop (hidn (mk3 (ps.headD [])))) [57] = false then none else
  if (mk3 (ps.headD [])).length + (if ps.length = 2 then (ps.getD 1 []).length else 0) ≤ 18 then some (.ed m (mk3 (ps.headD [])).length (if ps.length = 2 then (ps.getD 1 []).length else 0) sign) else none
theorem take1 (m : List Nat) : (m.take 1 ∈ [[122], [42], [57]]) ↔ (m ≠ [] ∧ m.headD 0 ∈ Z3) := by
  cases m with
  | nil => simp
  | cons a r => rw [z3_iff]; simp
theorem edP_def (m sign : List Nat) : edP m sign = (if ¬ (m.take 1 ∈ [[122], [42], [57]]) ∨ allM 57 (wh (dig (cutW 46 m))) = false then none else
  if allM 57 ((cutR 46 m).getD []) = false ∨ cutR 46 m = some [] then none else
  if (dig (cutW 46 m)).length + ((cutR 46 m).getD []).length > 18 then none else
  if sign = [] ∧ allM 57 m = true then none else
  some (.ed m (dig (cutW 46 m)).length ((cutR 46 m).getD []).length sign)) := rfl
theorem not_true {b : Bool} (h : ¬ b = true) : b = false := by cases b <;> simp_all
/-- the law reads the marks as the program does -/
theorem led_eq (m sign : List Nat) (h9 : sign = [] → allM 57 m = true → m.length > 18 ∨ m = []) : ledB m sign = edP m sign := by
  rw [edP_def]
  have hok := ok_iff (cutW 46 m)
  by_cases hm : m.take 1 ∈ [[122], [42], [57]]
  rotate_left
  · rw [if_pos (.inl hm)]
    have : m = [] ∨ ¬ (m.headD 0 ∈ Z3) := by
      by_cases e : m = []
      · exact .inl e
      · exact .inr fun z => hm ((take1 m).mpr ⟨e, z⟩)
    unfold ledB
    exact if_pos (this.elim .inl fun z => .inr (.inl z))
  obtain ⟨hne, hz3⟩ := (take1 m).mp hm
  unfold ledB
  cases h : cutR 46 m with
  | none =>
    rw [spl_none h, (cut_none h).1] at *
    show (if m = [] ∨ ¬ (m.headD 0 ∈ Z3) ∨ (1 : Nat) > 2 ∨ ((1 : Nat) = 2 ∧ _) then none else if (1 : Nat) = 2 ∧ _ then none else if allIn m Z7 = false then none else if (mk3 m).take (hidn (mk3 m)) ≠ List.replicate (hidn (mk3 m)) ((mk3 m).headD 0) ∨ allIn ((mk3 m).drop (hidn (mk3 m))) [57] = false then none else if (mk3 m).length + 0 ≤ 18 then some (MP.Pic.ed m (mk3 m).length 0 sign) else none) = _
    rw [if_neg (fun z => z.elim hne fun z => z.elim (fun z => z hz3) fun z => z.elim (fun z => by omega) fun z => by omega), if_neg (fun z => by omega), Option.getD_none]
    by_cases ho : allM 57 (wh (dig m)) = true
    · obtain ⟨o1, o2, o3⟩ := hok.1 ho
      rw [if_neg (show ¬ allIn m Z7 = false by rw [o1]; simp), if_neg (fun z => z.elim (fun z => z o2) (fun z => by rw [allM_in, o3] at z; cases z))]
      rw [if_neg (show ¬ (¬ (m.take 1 ∈ [[122], [42], [57]]) ∨ allM 57 (wh (dig m)) = false) from fun z => z.elim (fun z => z hm) (fun z => by rw [ho] at z; cases z)), if_neg (show ¬ (allM 57 [] = false ∨ (none : Option (List Nat)) = some []) by simp [allM]), dig_mk o1]
      by_cases h18 : (mk3 m).length ≤ 18
      · rw [if_pos (by omega), if_neg (show ¬ ((mk3 m).length + ([] : List Nat).length > 18) by simp; omega), if_neg]
        · rfl
        · rintro ⟨z1, z2⟩
          have := h9 z1 z2
          have e : mk3 m = m := List.filter_eq_self.mpr fun x hx => by
            have := of_decide_eq_true (List.all_eq_true.mp z2 x hx)
            rw [this]; rfl
          rw [e] at h18
          rcases this with q | q
          · omega
          · exact hne q
      · rw [if_neg (by omega), if_pos (show (mk3 m).length + ([] : List Nat).length > 18 by simp; omega)]
    · rw [if_pos (show (¬ (m.take 1 ∈ [[122], [42], [57]]) ∨ allM 57 (wh (dig m)) = false) from .inr (not_true ho))]
      by_cases o1 : allIn m Z7 = true
      · rw [if_neg (show ¬ allIn m Z7 = false by rw [o1]; simp)]
        refine if_pos ?_
        by_cases o2 : (mk3 m).take (hidn (mk3 m)) = List.replicate (hidn (mk3 m)) ((mk3 m).headD 0)
        · refine .inr ?_
          rw [allM_in]
          exact not_true fun o3 => ho (hok.2 ⟨o1, o2, o3⟩)
        · exact .inl o2
      · exact if_pos (not_true o1)
  | some f =>
    rw [spl_some h]
    cases h2 : cutR 46 f with
    | some g =>
      rw [spl_some h2]
      have hb : allM 57 f = false := not_true fun z => by
        have := List.all_eq_true.mp z 46 (cutR_in h2)
        simp at this
      have e1 := spl_ne (c := 46) g
      rw [Option.getD_some]
      refine Eq.trans (if_pos (.inr (.inr (.inl (by simp only [List.length_cons]; omega))))) ?_
      by_cases ho : ¬ (m.take 1 ∈ [[122], [42], [57]]) ∨ allM 57 (wh (dig (cutW 46 m))) = false
      · rw [if_pos ho]
      · rw [if_neg ho, if_pos (.inl hb)]
    | none =>
      rw [spl_none h2, Option.getD_some]
      generalize cutW 46 m = w at *
      show (if m = [] ∨ ¬ (m.headD 0 ∈ Z3) ∨ (2 : Nat) > 2 ∨ ((2 : Nat) = 2 ∧ f = []) then none else if (2 : Nat) = 2 ∧ allIn f [57] = false then none else if allIn w Z7 = false then none else if (mk3 w).take (hidn (mk3 w)) ≠ List.replicate (hidn (mk3 w)) ((mk3 w).headD 0) ∨ allIn ((mk3 w).drop (hidn (mk3 w))) [57] = false then none else if (mk3 w).length + f.length ≤ 18 then some (MP.Pic.ed m (mk3 w).length f.length sign) else none) = _
      by_cases hf : f = []
      · subst hf
        rw [if_pos (.inr (.inr (.inr ⟨rfl, rfl⟩)))]
        by_cases ho : ¬ (m.take 1 ∈ [[122], [42], [57]]) ∨ allM 57 (wh (dig w)) = false
        · rw [if_pos ho]
        · rw [if_neg ho, if_pos (.inr rfl)]
      · rw [if_neg (fun z => z.elim hne fun z => z.elim (fun z => z hz3) fun z => z.elim (fun z => by omega) fun z => hf z.2), allM_in]
        by_cases hfa : allM 57 f = true
        · rw [if_neg (show ¬ ((2 : Nat) = 2 ∧ allM 57 f = false) from fun z => by rw [hfa] at z; cases z.2)]
          by_cases ho : allM 57 (wh (dig w)) = true
          · obtain ⟨o1, o2, o3⟩ := hok.1 ho
            rw [if_neg (show ¬ allIn w Z7 = false by rw [o1]; simp), if_neg (fun z => z.elim (fun z => z o2) (fun z => by rw [allM_in, o3] at z; cases z))]
            rw [if_neg (show ¬ (¬ (m.take 1 ∈ [[122], [42], [57]]) ∨ allM 57 (wh (dig w)) = false) from fun z => z.elim (fun z => z hm) (fun z => by rw [ho] at z; cases z)), if_neg (show ¬ (allM 57 f = false ∨ some f = some []) from fun z => z.elim (fun z => by rw [hfa] at z; cases z) (fun z => hf (by simpa using z))), dig_mk o1]
            by_cases h18 : (mk3 w).length + f.length ≤ 18
            · rw [if_pos h18, if_neg (show ¬ ((mk3 w).length + f.length > 18) by omega), if_neg]
              rintro ⟨z1, z2⟩
              have := List.all_eq_true.mp z2 46 (cutR_in h)
              simp at this
            · rw [if_neg h18, if_pos (show (mk3 w).length + f.length > 18 by omega)]
          · rw [if_pos (show (¬ (m.take 1 ∈ [[122], [42], [57]]) ∨ allM 57 (wh (dig w)) = false) from .inr (not_true ho))]
            by_cases o1 : allIn w Z7 = true
            · rw [if_neg (show ¬ allIn w Z7 = false by rw [o1]; simp)]
              refine if_pos ?_
              by_cases o2 : (mk3 w).take (hidn (mk3 w)) = List.replicate (hidn (mk3 w)) ((mk3 w).headD 0)
              · refine .inr ?_
                rw [allM_in]
                exact not_true fun o3 => ho (hok.2 ⟨o1, o2, o3⟩)
              · exact .inl o2
            · exact if_pos (not_true o1)
        · rw [if_pos ⟨rfl, not_true hfa⟩]
          by_cases ho : ¬ (m.take 1 ∈ [[122], [42], [57]]) ∨ allM 57 (wh (dig w)) = false
          · rw [if_pos ho]
          · rw [if_neg ho, if_pos (.inl (not_true hfa))]
end MR
namespace MR
open PySem PySem.Spec PyProof.Rows L2 MW MT
open SX (S)
theorem lawOut_len (l : List Nat) : (lawOut l).length ≤ 80 := by
  unfold lawOut
  cases spread l with
  | none => exact Nat.zero_le _
  | some row =>
    show (if row.length ≤ 80 then row else []).length ≤ 80
    by_cases h : row.length ≤ 80
    · rw [if_pos h]; exact h
    · rw [if_neg h]; exact Nat.zero_le _
theorem readPic_out (l : List Nat) : readPic l = if lawOut l = [] then none else rowP (lawOut l) := by
  unfold readPic lawOut
  cases spread l with
  | none => rfl
  | some row =>
    show rowP row = if (if row.length ≤ 80 then row else []) = [] then none else rowP (if row.length ≤ 80 then row else [])
    by_cases h : row.length ≤ 80
    · rw [if_pos h]
      by_cases h2 : row = []
      · rw [if_pos h2, h2]; rfl
      · rw [if_neg h2]
    · rw [if_neg h, if_pos rfl]
      unfold rowP
      rw [if_neg (fun z => h z.2)]
end MR
namespace MR
open PySem PySem.Spec PyProof.Rows L2 MW MT
open SX (S)
theorem at_Sn {ps : List (List Nat)} {i : Nat} {w : List Nat} (h : ps[i]? = some w) : atI (ps.map fun a => V.str (S a)) (i : Int) = some (.str (S w)) := atI_nat (by rw [List.getElem?_map, h]; rfl)
theorem last_S {ps : List (List Nat)} (h : 1 ≤ ps.length) : atI (ps.map fun a => V.str (S a)) (-1 : Int) = some (.str (S ((ps.getLast?).getD []))) := by
  cases ps with
  | nil => exact absurd h (by decide)
  | cons c r =>
    have e : ixN (((c :: r).map fun a => V.str (S a))).length (-1) = some r.length := by
      unfold ixN
      rw [if_neg (by decide)]
      rw [List.length_map, List.length_cons]
      first | (rw [if_pos (by omega)]; congr 1; omega) | (simp; omega)
    unfold atI
    rw [e]
    show ((c :: r).map fun a => V.str (S a))[r.length]? = _
    have e2 : (c :: r).getLast? = (c :: r)[(c :: r).length - 1]? := List.getLast?_eq_getElem?
    rw [show (c :: r).length - 1 = r.length from rfl] at e2
    rw [List.getElem?_map, ← e2]
    simp [List.getLast?_cons]
end MR
namespace MR
open PySem PySem.Spec PyProof.Rows L2 MW MT
open SX (S)
theorem bad_none {m sg : List Nat} {x : Nat} (hx : x ∈ m) (h : x ≠ 46) (h7 : ¬ x ∈ Z7) : edP m sg = none := by
  rw [edP_def]
  by_cases ho : allM 57 (wh (dig (cutW 46 m))) = true
  rotate_left
  · exact if_pos (.inr (not_true ho))
  have hA := ((ok_iff _).1 ho).1
  have hxA : ¬ x ∈ cutW 46 m := fun z => h7 (of_decide_eq_true (List.all_eq_true.mp hA x z))
  by_cases h1 : ¬ (m.take 1 ∈ [[122], [42], [57]]) ∨ allM 57 (wh (dig (cutW 46 m))) = false
  · exact if_pos h1
  rw [if_neg h1]
  refine if_pos (.inl ?_)
  cases e : cutR 46 m with
  | none => exact absurd (by rw [(cut_none e).1]; exact hx) hxA
  | some r =>
    have hm := cut_some e
    have : x ∈ cutW 46 m ++ 46 :: r := by rw [← hm]; exact hx
    rcases List.mem_append.mp this with z | z
    · exact absurd z hxA
    · rcases List.mem_cons.mp z with z | z
      · exact absurd z h
      · refine not_true fun q => h7 ?_
        have q := of_decide_eq_true (List.all_eq_true.mp q x z)
        rw [q]; decide
theorem ledB_bad {m sg : List Nat} (h : m = [] ∨ ¬ (m.headD 0 ∈ Z3)) : ledB m sg = none := by
  unfold ledB
  exact if_pos (h.elim .inl fun z => .inr (.inl z))
def isL2 (l : List Nat) : Prop := l.drop (l.length - 2) = [99, 114] ∨ l.drop (l.length - 2) = [100, 98]
instance (l : List Nat) : Decidable (isL2 l) := by unfold isL2; infer_instance
def lpart (l : List Nat) : List Nat × List Nat :=
  if isL2 l then (l.take (l.length - 2), l.drop (l.length - 2))
  else if l.headD 0 = 45 ∨ l.headD 0 = 43 then (l.drop 1, [l.headD 0])
  else if last1 l = 45 ∨ last1 l = 43 then (l.take (l.length - 1), [46, last1 l])
  else (l, [])
theorem two_shape {l : List Nat} (h : isL2 l) : ∃ q a b, l = q ++ [a, b] ∧ (a = 99 ∨ a = 100) ∧ (b = 114 ∨ b = 98) ∧ l.take (l.length - 2) = q ∧ l.drop (l.length - 2) = [a, b] := by
  have e := (List.take_append_drop (l.length - 2) l).symm
  rcases h with h | h
  · rw [h] at e
    exact ⟨_, 99, 114, e, .inl rfl, .inl rfl, rfl, h⟩
  · rw [h] at e
    exact ⟨_, 100, 98, e, .inr rfl, .inr rfl, rfl, h⟩
theorem num_nines {l : List Nat} (h : numP l = none) (ha : allM 57 l = true) : l.length > 18 ∨ l = [] := by
  by_cases hl : l = []
  · exact .inr hl
  refine .inl ?_
  refine Classical.byContradiction fun h18 => ?_
  have hp := List.length_pos_iff.mpr hl
  have n57 : ∀ x ∈ l, x = 57 := fun x hx => of_decide_eq_true (List.all_eq_true.mp ha x hx)
  have e : l.head? ≠ some 115 := fun z => by
    have := n57 115 (List.mem_of_head? z)
    cases this
  have ec : cutR 118 l = none := by
    cases e2 : cutR 118 l with
    | none => rfl
    | some r => exact absurd (n57 118 (cutR_in e2)) (by decide)
  rw [numB, decide_eq_false e] at h
  have h : (if cutR 118 l = some [] then none else
    if allM 57 (cutW 118 l ++ (cutR 118 l).getD []) = true ∧ 1 ≤ (cutW 118 l ++ (cutR 118 l).getD []).length ∧ (cutW 118 l ++ (cutR 118 l).getD []).length ≤ 18
    then some (MP.Pic.num false (cutW 118 l).length ((cutR 118 l).getD []).length) else none) = none := h
  rw [ec, if_neg (by simp), (cut_none ec).1, Option.getD_none, List.append_nil, if_pos ⟨ha, hp, by omega⟩] at h
  cases h
theorem part_eq (l : List Nat) (h1 : 1 ≤ l.length) (hn : numP l = none) : ledB (lpart l).1 (lpart l).2 = edP (partP l).1 (partP l).2 := by
  by_cases h2 : isL2 l
  · have el : lpart l = (l.take (l.length - 2), l.drop (l.length - 2)) := if_pos h2
    obtain ⟨q, a, b, e, ha, hb, et, ed⟩ := two_shape h2
    have hl1 : last1 l = b := by unfold last1; rw [e]; simp
    by_cases hh : l.headD 0 = 45 ∨ l.headD 0 = 43
    · have ep : partP l = (l.drop 1, [l.headD 0]) := if_pos hh
      rw [el, ep]
      have hq : q ≠ [] := fun z => by
        rw [e, z] at hh
        have : a = 45 ∨ a = 43 := hh
        omega
      obtain ⟨c, r, rfl⟩ : ∃ c r, q = c :: r := by
        cases q with
        | nil => exact absurd rfl hq
        | cons c r => exact ⟨c, r, rfl⟩
      have hc : l.headD 0 = c := by rw [e]; rfl
      have ea : a ∈ l.drop 1 := by rw [e]; simp
      show ledB (l.take (l.length - 2)) _ = edP (l.drop 1) _
      rw [bad_none (x := a) ea (by omega) (by rcases ha with rfl | rfl <;> decide), et]
      refine ledB_bad (.inr ?_)
      show ¬ c ∈ Z3
      rw [hc] at hh
      rcases hh with rfl | rfl <;> decide
    · have ep : partP l = (l.take (l.length - 2), l.drop (l.length - 2)) := by
        unfold partP
        rw [if_neg hh, if_neg (by rw [hl1]; omega)]
        exact if_pos h2
      rw [el, ep]
      exact led_eq _ _ fun z => by
        have z : l.drop (l.length - 2) = [] := z
        rw [ed] at z; cases z
  · by_cases hh : l.headD 0 = 45 ∨ l.headD 0 = 43
    · have el : lpart l = (l.drop 1, [l.headD 0]) := by unfold lpart; rw [if_neg h2, if_pos hh]
      have ep : partP l = (l.drop 1, [l.headD 0]) := if_pos hh
      rw [el, ep]
      exact led_eq _ _ fun z => by cases z
    · by_cases hl : last1 l = 45 ∨ last1 l = 43
      · have el : lpart l = (l.take (l.length - 1), [46, last1 l]) := by unfold lpart; rw [if_neg h2, if_neg hh, if_pos hl]
        have ep : partP l = (l.take (l.length - 1), [46, last1 l]) := by unfold partP; rw [if_neg hh, if_pos hl]
        rw [el, ep]
        exact led_eq _ _ fun z => by cases z
      · have el : lpart l = (l, []) := by unfold lpart; rw [if_neg h2, if_neg hh, if_neg hl]
        have ep : partP l = (l, []) := by
          unfold partP
          rw [if_neg hh, if_neg hl]
          exact if_neg h2
        rw [el, ep]
        exact led_eq _ _ fun _ z => num_nines hn z
end MR
namespace MR
open PySem PySem.Spec PyProof.Rows L2 MW MT
open SX (S)
theorem lpart_len (l : List Nat) : (lpart l).1.length ≤ l.length := by
  unfold lpart
  split
  · show (l.take _).length ≤ _; rw [List.length_take]; omega
  · split
    · show (l.drop 1).length ≤ _; rw [List.length_drop]; omega
    · split
      · show (l.take _).length ≤ _; rw [List.length_take]; omega
      · exact Nat.le_refl _
theorem take_1 {l : List Nat} (h : 1 ≤ l.length) : l.take 1 = [l.headD 0] := by
  cases l with
  | nil => exact absurd h (by decide)
  | cons a r => rfl
theorem drop_1 {l : List Nat} (h : 1 ≤ l.length) : l.drop (l.length - 1) = [last1 l] := by
  have hne : l ≠ [] := fun z => by rw [z] at h; exact absurd h (by decide)
  have e := List.dropLast_concat_getLast hne
  have e2 : last1 l = l.getLast hne := by unfold last1; rw [List.getLast?_eq_some_getLast hne]; rfl
  rw [e2]
  have hd : l.dropLast.length = l.length - 1 := List.length_dropLast
  have : (l.dropLast ++ [l.getLast hne]).drop l.dropLast.length = [l.getLast hne] := List.drop_left
  rw [e, hd] at this
  exact this
theorem l2_take {l : List Nat} (h : isL2 l) : 2 ≤ l.length := by
  obtain ⟨q, a, b, e, _⟩ := two_shape h
  rw [e, List.length_append]; simp
end MR
namespace MR
open PySem PySem.Spec PyProof.Rows L2 MW MT
open SX (S)
theorem hidn_le (M : List Nat) : hidn M ≤ M.length := List.length_filter_le _ _
theorem mulM {M : List Nat} {H : Hp} {Q : VK} (h : M.length ≤ 1000) (q : Q (.str (S (List.replicate (hidn M) (M.headD 0)))) H) : WP.rMulS (.str (S (M.take 1))) (.int (hidn M : Int)) H Q := by
  cases M with
  | nil => exact ⟨S [], 0, rfl, rfl, by unfold MulOk; exact ⟨by decide, fun z => absurd (by decide) z, fun z => absurd (by decide) z⟩, q⟩
  | cons x r =>
    have := hidn_le (x :: r)
    exact WP.mulS (by omega) (by omega) (by rw [Int.toNat_natCast]; exact q)
theorem mk3_take {a : List Nat} {i c : Nat} (h : a[i]? = some c) : mk3 (a.take (i + 1)) = mk3 (a.take i) ++ (if c ∈ Z3 then [c] else []) := by
  have et : a.take (i + 1) = a.take i ++ [c] := by rw [List.take_succ, h]; rfl
  rw [et]
  unfold mk3
  rw [List.filter_append]
  by_cases hc : c ∈ Z3
  · rw [if_pos hc]; simp [hc]
  · rw [if_neg hc]; simp [hc]
def n57 (a : List Nat) : List Nat := a.filter (fun x => !decide (x = 57))
theorem n57_take {a : List Nat} {i c : Nat} (h : a[i]? = some c) : n57 (a.take (i + 1)) = n57 (a.take i) ++ (if c = 57 then [] else [c]) := by
  have et : a.take (i + 1) = a.take i ++ [c] := by rw [List.take_succ, h]; rfl
  rw [et]
  unfold n57
  rw [List.filter_append]
  by_cases hc : c = 57
  · rw [if_pos hc]; simp [hc]
  · rw [if_neg hc]; simp [hc]
theorem n57_len (a : List Nat) : (n57 a).length = hidn a := rfl
theorem n57_le (a : List Nat) : (n57 a).length ≤ a.length := List.length_filter_le _ _
theorem mk3_le (a : List Nat) : (mk3 a).length ≤ a.length := List.length_filter_le _ _
end MR
namespace MR
open PySem PySem.Spec PyProof.Rows L2 MW MT
open SX (S)
theorem nm {n : Nat} (h : n ≤ 100) : (TL.numL n).length ≤ 3 ∧ ∀ c ∈ TL.numL n, c < 128 := ⟨TL.numL_len (k := 3) (by decide) (by omega), fun c hc => by
  have := TL.numL_digits _ c hc
  omega⟩
theorem lt_app {a b : List Nat} (ha : ∀ c ∈ a, c < 128) (hb : ∀ c ∈ b, c < 128) : ∀ c ∈ a ++ b, c < 128 := fun c hc => (List.mem_append.mp hc).elim (ha c) (hb c)
end MR
namespace MR
open PySem PySem.Spec PyProof.Rows L2 MW MT
open SX (S)
theorem tw_at : ∀ {q : List Nat} {d : Nat}, d < (q.takeWhile fg).length → ∃ x, q[d]? = some x ∧ fg x = true
  | [], _, h => absurd h (by simp)
  | x :: r, d, h => by
    by_cases hx : fg x = true
    · cases d with
      | zero => exact ⟨x, rfl, hx⟩
      | succ d =>
        rw [List.takeWhile_cons_of_pos hx, List.length_cons] at h
        obtain ⟨y, h1, h2⟩ := tw_at (q := r) (d := d) (by omega)
        exact ⟨y, h1, h2⟩
    · rw [List.takeWhile_cons_of_neg hx] at h
      exact absurd h (by simp)
theorem tw_end : ∀ {q : List Nat} {x : Nat}, q[(q.takeWhile fg).length]? = some x → fg x = false
  | [], _, h => by simp at h
  | y :: r, x, h => by
    by_cases hy : fg y = true
    · rw [List.takeWhile_cons_of_pos hy, List.length_cons] at h
      exact tw_end (q := r) h
    · rw [List.takeWhile_cons_of_neg hy] at h
      have : y = x := by simpa using h
      rw [← this]
      exact not_true hy
theorem tw_le (q : List Nat) : (q.takeWhile fg).length ≤ q.length := (List.takeWhile_sublist _).length_le
theorem dn_fig {q : List Nat} : ∀ c ∈ q.take (dn q), fg c = true := fun c hc => by
  obtain ⟨i, hi, e⟩ := List.mem_iff_getElem.mp hc
  have hl : i < dn q := by rw [List.length_take] at hi; omega
  obtain ⟨x, h1, h2⟩ := tw_at (q := q) (d := i) (Nat.lt_of_lt_of_le hl (Nat.min_le_right _ _))
  have h3 : (q.take (dn q))[i]? = some c := by rw [List.getElem?_eq_getElem hi, e]
  rw [List.getElem?_take, if_pos hl, h1] at h3
  rw [← Option.some.inj h3]
  exact h2
theorem dn_len (q : List Nat) : (q.take (dn q)).length = dn q := by
  rw [List.length_take]
  have := tw_le q
  have : dn q ≤ (q.takeWhile fg).length := Nat.min_le_right _ _
  omega
theorem dn_figs {q : List Nat} (h : q.take (dn q) ≠ []) : figs (q.take (dn q)) = true := by
  unfold figs
  rw [decide_eq_false h]
  exact List.all_eq_true.mpr fun c hc => dn_fig c hc
theorem fg_iff (c : Nat) : decide (c ∈ FIG) = fg c := rfl
end MR
namespace MR
open PySem PySem.Spec PyProof.Rows L2 MW MT
open SX (S)
theorem spread_mem : ∀ (n : Nat) (l row : List Nat), l.length ≤ n → spread l = some row → ∀ c ∈ row, c ∈ l
  | _, [], row, _, h, c, hc => by rw [spread_nil] at h; cases h; exact hc
  | 0, x :: r, _, hn, _, _, _ => absurd hn (by simp)
  | n + 1, x :: r, row, hn, h, c, hc => by
    rw [spread_cons] at h
    cases e : cnt r with
    | none => rw [e] at h; cases h
    | some ck =>
      obtain ⟨m, k⟩ := ck
      rw [e] at h
      have h : (spread (r.drop k)).map (List.replicate m x ++ ·) = some row := h
      cases e2 : spread (r.drop k) with
      | none => rw [e2] at h; cases h
      | some q =>
        rw [e2] at h
        cases h
        rcases List.mem_append.mp hc with z | z
        · rw [List.eq_of_mem_replicate z]; exact .head _
        · exact .tail _ (List.mem_of_mem_drop (spread_mem n (r.drop k) q (by rw [List.length_drop]; simp at hn; omega) e2 c z))
theorem lawOut_lt {l : List Nat} (h : ∀ c ∈ l, c < 128) : ∀ c ∈ lawOut l, c < 128 := fun c hc => by
  unfold lawOut at hc
  cases e : spread l with
  | none => rw [e] at hc; cases hc
  | some row =>
    rw [e] at hc
    have hc : c ∈ (if row.length ≤ 80 then row else []) := hc
    by_cases h8 : row.length ≤ 80
    · rw [if_pos h8] at hc
      exact h c (spread_mem l.length l row (Nat.le_refl _) e c hc)
    · rw [if_neg h8] at hc; cases hc
end MR
namespace MR
open PySem PySem.Spec PyProof.Rows L2 MW MT
open SX (S)
def Res.ds : Res → List PyData
  | .txt n => [.str (S [116, 101, 120, 116]), .int (n : Int)]
  | .pic (.num sg w f) => [.str (S [110, 117, 109, 98, 101, 114]), .bool sg, .int (w : Int), .int (f : Int)]
  | .pic (.ed b w f s) => [.str (S [101, 100, 105, 116, 101, 100]), .str (S b), .int (w : Int), .int (f : Int), .str (S s)]
theorem Res.dp {K : PySem.W.Frag} {H : Hp} : ∀ r : Res, DpAll K H r.vs r.ds
  | .txt _ => .cons (.str _) (.cons (.int _) .nil)
  | .pic (.num _ _ _) => .cons (.str _) (.cons (.bl _) (.cons (.int _) (.cons (.int _) .nil)))
  | .pic (.ed _ _ _ _) => .cons (.str _) (.cons (.str _) (.cons (.int _) (.cons (.int _) (.cons (.str _) .nil))))
def Res.Lt : Res → Prop
  | .txt _ => True
  | .pic (.num _ _ _) => True
  | .pic (.ed b _ _ s) => (∀ c ∈ b, c < 128) ∧ ∀ c ∈ s, c < 128
theorem and2 {a b : Bool} (h : a = true) (k : b = true) : (a && b) = true := Bool.and_eq_true_iff.mpr ⟨h, k⟩
theorem Res.lay : ∀ {r : Res}, r.Lt → (PyData.tuple r.ds).canLay0 = true
  | .txt _, _ => and2 (WP.sok_S (l := [116, 101, 120, 116]) (by decide)) rfl
  | .pic (.num _ _ _), _ => and2 (WP.sok_S (l := [110, 117, 109, 98, 101, 114]) (by decide)) rfl
  | .pic (.ed _ _ _ _), h => and2 (WP.sok_S (l := [101, 100, 105, 116, 101, 100]) (by decide)) (and2 (WP.sok_S fun c hc => Nat.lt_trans (h.1 c hc) (by decide)) (and2 rfl (and2 rfl (and2 (WP.sok_S fun c hc => Nat.lt_trans (h.2 c hc) (by decide)) rfl))))
theorem Res.sh : ∀ {r : Res}, r.Lt → SeqAt.shaped (.tuple r.ds) = true
  | .txt _, h => and2 (Res.lay h) rfl
  | .pic (.num _ _ _), h => and2 (Res.lay h) rfl
  | .pic (.ed _ _ _ _), h => and2 (Res.lay h) rfl
theorem Res.ne (r : Res) (x : Str) : PyData.eqv (.tuple r.ds) (.str x) = false := by
  first | rfl | (cases r <;> rfl) | (unfold PyData.eqv; rfl)
theorem not_ed (A B : Prop) [Decidable A] [Decidable B] (sg : Bool) (x y : Nat) (b : List Nat) (w f : Nat) (s : List Nat) : (if A then none else if B then some (MP.Pic.num sg x y) else none) ≠ some (.ed b w f s) := by
  by_cases a : A
  · rw [if_pos a]; simp
  · rw [if_neg a]
    by_cases b : B
    · rw [if_pos b]; simp
    · rw [if_neg b]; simp
theorem row_lt {row : List Nat} {r : Res} (hl : ∀ c ∈ row, c < 128) (h : rowP row = some r) : r.Lt := by
  unfold rowP at h
  by_cases h1 : 1 ≤ row.length ∧ row.length ≤ 80
  · rw [if_pos h1] at h
    by_cases h2 : allM 120 row = true
    · rw [if_pos h2] at h
      cases h
      exact trivial
    · rw [if_neg h2] at h
      cases e : numP row with
      | some p =>
        rw [e] at h
        cases h
        rw [numB] at e
        cases p with
        | num _ _ _ => exact trivial
        | ed _ _ _ _ =>
          exact absurd e (not_ed _ _ _ _ _ _ _ _ _)
      | none =>
        rw [e] at h
        have h : (edP (partP row).1 (partP row).2).map Res.pic = some r := h
        have hp : (∀ c ∈ (partP row).1, c < 128) ∧ ∀ c ∈ (partP row).2, c < 128 := by
          unfold partP
          split
          · exact ⟨fun c hc => hl c (List.mem_of_mem_drop hc), fun c hc => by rw [List.mem_singleton.mp hc]; omega⟩
          · split
            · refine ⟨fun c hc => hl c (List.mem_of_mem_take hc), fun c hc => ?_⟩
              rcases List.mem_cons.mp hc with z | z
              · omega
              · rw [List.mem_singleton.mp z]; omega
            · split
              · exact ⟨fun c hc => hl c (List.mem_of_mem_take hc), fun c hc => hl c (List.mem_of_mem_drop hc)⟩
              · exact ⟨hl, fun c hc => by cases hc⟩
        rw [edP_def] at h
        split at h
        · cases h
        · split at h
          · cases h
          · split at h
            · cases h
            · split at h
              · cases h
              · cases h
                exact hp
  · rw [if_neg h1] at h
    cases h
theorem read_lt {l : List Nat} {r : Res} (hl : ∀ c ∈ l, c < 128) (h : readPic l = some r) : r.Lt := by
  rw [readPic_out] at h
  split at h
  · cases h
  · exact row_lt (lawOut_lt hl) h
end MR

namespace MR
open PySem PySem.Spec PyProof.Rows L2 MW MT
open SX (S)
/-! ### the canonical text -/
def sgm (s : List Nat) : List Nat := s.filter (fun x => !decide (x = 46))
theorem sgm_len (s : List Nat) : (sgm s).length ≤ s.length := List.length_filter_le _ _
def numT (sg : Bool) (w f : Nat) : List Nat := (if sg = true then [115] else []) ++ ((if w = 0 then [] else [57, 40] ++ TL.numL w ++ [41]) ++ (if f = 0 then [] else [118, 57, 40] ++ TL.numL f ++ [41]))
theorem numT_len (sg : Bool) {w f : Nat} (hw : w ≤ 100) (hf : f ≤ 100) : (numT sg w f).length ≤ 20 := by
  unfold numT
  have h1 := (nm hw).1
  have h2 := (nm hf).1
  split <;> split <;> split <;> simp <;> omega
def picT : Res → List Nat
  | .txt n => [120, 40] ++ TL.numL n ++ [41]
  | .pic (.num sg w f) => numT sg w f
  | .pic (.ed b _ _ s) => if s = [45] ∨ s = [43] then s ++ b else b ++ sgm s
end MR
namespace MR
def sizT : Res → Nat
  | .txt n => n
  | .pic (.num sg w f) => w + f + (if sg = true then 1 else 0)
  | .pic (.ed b _ _ s) => b.length + (sgm s).length
end MR
namespace MR
open PySem PySem.Spec PyProof.Rows L2 MW MT
open SX (S)
def isBl : V → Bool
  | .bl _ => true
  | _ => false
def inI : V → Int
  | .int i => i
  | _ => 0
def coS : V → List Nat
  | .str z => z.cps.toList
  | _ => []
theorem coS_S (l : List Nat) : coS (.str (S l)) = l := rfl
def edEq (b : List Nat) (i j : Int) (s : List Nat) : Bool := match edP b s with
  | some (.ed _ w f _) => decide (i = (w : Int)) && decide (j = (f : Int))
  | _ => false
theorem eqv5 {x y z : Str} {i j i' j' : Int} : PyData.eqv (.tuple [.str x, .str y, .int i, .int j, .str z]) (.tuple [.str x, .str y, .int i', .int j', .str z]) = (decide (i = i') && decide (j = j')) := by
  show (PyData.eqv (.str x) (.str x) && (PyData.eqv (.str y) (.str y) && (PyData.eqv (.int i) (.int i') && (PyData.eqv (.int j) (.int j') && (PyData.eqv (.str z) (.str z) && true))))) = _
  have e : ∀ a : Str, PyData.eqv (.str a) (.str a) = true := fun a => by
    show (a == a) = true
    simp
  have e2 : ∀ a b : Int, PyData.eqv (.int a) (.int b) = decide (a = b) := fun a b => by
    show (a == b) = _
    rfl
  rw [e, e, e, e2, e2, Bool.true_and, Bool.true_and, Bool.true_and, Bool.and_true]
theorem eqvN {ds : List PyData} : PyData.eqv (.tuple ds) .none = false := by
  first | rfl | (unfold PyData.eqv; rfl)
end MR
namespace MR
open PySem PySem.Spec PyProof.Rows L2 MW MT
open SX (S)
theorem isBlW {K : PySem.W.Frag} {H : Hp} {v : V} {Q : VK} (h : MW.Wd K H v) (q : Q (.bl (isBl v)) H) : rIsi K [v, .ty "bool"] H Q := by
  cases h with
  | str hl ok => exact WP.isN (.base (.str _)) q
  | non => exact WP.isN (.base .non) q
  | int i => exact WP.isN (.base (.int i)) q
  | bl b => exact WP.isY (.base (.bl b)) q
  | tup h => exact WP.isN (WP.tyT h) q
  | lst h => exact WP.isN (MW.tyL h) q
end MR
namespace MR
theorem edP_form {m sg : List Nat} {p : MP.Pic} (h : edP m sg = some p) : ∃ w f, p = .ed m w f sg := by
  rw [edP_def] at h
  split at h
  · cases h
  · split at h
    · cases h
    · split at h
      · cases h
      · split at h
        · cases h
        · exact ⟨_, _, (Option.some.inj h).symm⟩
end MR
namespace MR
/-- the parts are small -/
def Sm : Res → Prop
  | .txt n => n ≤ 100
  | .pic (.num _ w f) => w ≤ 100 ∧ f ≤ 100
  | .pic (.ed b _ _ s) => b.length ≤ 1000 ∧ s ∈ MP.signs
end MR
namespace MR
open PySem PySem.Spec PyProof.Rows L2 MW MT
open SX (S)
/-- a value that is no tuple -/
inductive NoT (K : PySem.W.Frag) (H : Hp) : V → Prop
  | str {l : List Nat} : NoT K H (.str (S l))
  | non : NoT K H .non
  | int (i : Int) : NoT K H (.int i)
  | lst {p : Addr} {xs : List V} (h : SqL K H p xs) : NoT K H (.ref p)
theorem NoT.isTup {K : PySem.W.Frag} {H : Hp} {v : V} {Q : VK} (h : NoT K H v) (q : Q (.bl false) H) : rIsi K [v, .ty "tuple"] H Q := by
  cases h with
  | str => exact WP.isN (.base (.str _)) q
  | non => exact WP.isN (.base .non) q
  | int i => exact WP.isN (.base (.int i)) q
  | lst h => exact WP.isN (MW.tyL h) q
end MR
namespace MR
open PySem PySem.Spec PyProof.Rows L2 MW MT
theorem Res.len : ∀ r : Res, 2 ≤ r.vs.length ∧ r.vs.length ≤ 5
  | .txt _ => ⟨by show 2 ≤ 2; decide, by show 2 ≤ 5; decide⟩
  | .pic (.num _ _ _) => ⟨by show 2 ≤ 4; decide, by show 4 ≤ 5; decide⟩
  | .pic (.ed _ _ _ _) => ⟨by show 2 ≤ 5; decide, by show 5 ≤ 5; decide⟩
theorem at_V {ls : List V} {i : Int} (h0 : 0 ≤ i) (h1 : i < (ls.length : Int)) : ∃ a ∈ ls, atI ls i = some a := by
  obtain ⟨j, rfl⟩ : ∃ j : Nat, i = (j : Int) := ⟨i.toNat, by omega⟩
  have hj : j < ls.length := by omega
  exact ⟨ls[j], List.getElem_mem hj, atI_nat (List.getElem?_eq_getElem hj)⟩
end MR
namespace MR
open PySem PySem.Spec PyProof.Rows L2 MW MT
open SX (S)
/-- the bodies that the law draws, and the odd texts that it puts in -/
def BODS : List (List Nat) := (MP.bodies ++ MP.bodies.flatMap (fun b => [[57], [57, 57], [57, 57, 57]].map fun f => b ++ [46] ++ f)) ++ [[], [122, 57], [57, 57], [57, 46, 57], [45], [46, 45], [99, 114], [120], [116, 101, 120, 116], [110, 117, 109, 98, 101, 114], [101, 100, 105, 116, 101, 100]]
def GoodB (xs : List V) : Prop := ∀ z : Str, xs[1]? = some (.str z) → ∃ l ∈ BODS, z = S l
end MR

namespace MF
open PySem PySem.Spec PyProof.Rows L2 MP
/-! ### fields read back -/
def siz (p : Pic) : Nat := MR.sizT (.pic p)
def lk : List Nat → List Nat → List Nat
  | m :: ms, c :: cs => if isD m = true then (if 48 ≤ c ∧ c ≤ 57 then c else 48) :: lk ms cs else lk ms cs
  | _, _ => []
theorem lk_len : ∀ ms cs : List Nat, ms.length = cs.length → (lk ms cs).length = (ms.filter isD).length
  | [], [], _ => rfl
  | m :: ms, c :: cs, h => by
    have ih := lk_len ms cs (by simpa using h)
    unfold lk
    by_cases d : isD m = true
    · rw [if_pos d, List.filter_cons, if_pos d, List.length_cons, List.length_cons, ih]
    · rw [if_neg d, List.filter_cons, if_neg d, ih]
theorem lk_dig : ∀ ms cs : List Nat, ∀ c ∈ lk ms cs, 48 ≤ c ∧ c ≤ 57
  | [], _, c, h => by unfold lk at h; cases h
  | _ :: _, [], c, h => by unfold lk at h; cases h
  | m :: ms, x :: cs, c, h => by
    unfold lk at h
    by_cases d : isD m = true
    · rw [if_pos d] at h
      rcases List.mem_cons.mp h with e | e
      · rw [e]
        split
        · assumption
        · decide
      · exact lk_dig ms cs c e
    · rw [if_neg d] at h
      exact lk_dig ms cs c h
theorem lk_body (fill : Nat) (hf : fill < 48) : ∀ (ms : List Nat) (hid : Bool) (fs : List Nat), (∀ c ∈ fs, 48 ≤ c ∧ c ≤ 57) → (ms.filter isD).length = fs.length → lk ms (bodyF fill hid ms fs) = fs ∧ (bodyF fill hid ms fs).length = ms.length
  | [], hid, fs, _, h => by
    have : fs = [] := List.length_eq_zero_iff.mp h.symm
    subst this
    unfold bodyF
    exact ⟨rfl, rfl⟩
  | m :: ms, hid, fs, hd, h => by
    by_cases d : isD m = true
    · rw [List.filter_cons, if_pos d, List.length_cons] at h
      match fs, h, hd with
      | [], h, _ => cases h
      | c :: cs, h, hd =>
        rw [bodyF_D d]
        have ih := lk_body fill hf ms (hid && (!(m == 57)) && (c == 48)) cs (fun c hc => hd c (.tail _ hc)) (by simpa using h)
        have hc := hd c (.head _)
        refine ⟨?_, by rw [List.length_cons, ih.2, List.length_cons]⟩
        unfold lk
        rw [if_pos d, ih.1]
        congr 1
        cases e : (hid && (!(m == 57)) && (c == 48)) with
        | false => rw [if_neg Bool.false_ne_true, if_pos hc]
        | true =>
          rw [if_pos rfl, if_neg (by omega)]
          have : (c == 48) = true := by
            rw [Bool.and_eq_true] at e; exact e.2
          exact (eq_of_beq this).symm
    · rw [List.filter_cons, if_neg d] at h
      by_cases h46 : m = 46
      · subst h46
        rw [bodyF_P]
        have ih := lk_body fill hf ms false fs hd h
        exact ⟨by unfold lk; rw [if_neg d, ih.1], by rw [List.length_cons, ih.2, List.length_cons]⟩
      · rw [bodyF_I (by simpa using d) h46]
        have ih := lk_body fill hf ms hid fs hd h
        exact ⟨by unfold lk; rw [if_neg d, ih.1], by rw [List.length_cons, ih.2, List.length_cons]⟩
theorem lk_nine : ∀ fs : List Nat, (∀ c ∈ fs, 48 ≤ c ∧ c ≤ 57) → lk (List.replicate fs.length 57) fs = fs
  | [], _ => rfl
  | c :: cs, h => by
    rw [List.length_cons, List.replicate_succ]
    unfold lk
    rw [if_pos (show isD 57 = true from rfl), if_pos (h c (.head _)), lk_nine cs fun c hc => h c (.tail _ hc)]
theorem nine_ct (n : Nat) : ((List.replicate n 57).filter isD).length = n := by
  rw [List.filter_replicate, if_pos (show isD 57 = true from rfl), List.length_replicate]
/-- the value of figures -/
theorem dv_app (a : Nat) (l : List Nat) (c : Nat) : (l ++ [c]).foldl (fun acc c => acc * 10 + (c - 48)) a = l.foldl (fun acc c => acc * 10 + (c - 48)) a * 10 + (c - 48) := by
  rw [List.foldl_append]; rfl
theorem dv_pad : ∀ k n : Nat, n < 10 ^ k → NumText.digitsVal (WP.padL k n) = n
  | 0, n, h => by
    have : n = 0 := by simpa using h
    subst this; rfl
  | k + 1, n, h => by
    have e10 : 10 ^ (k + 1) = 10 ^ k * 10 := Nat.pow_succ ..
    have ih := dv_pad k (n / 10) (by omega)
    unfold NumText.digitsVal at ih ⊢
    rw [show WP.padL (k + 1) n = WP.padL k (n / 10) ++ [48 + n % 10] from rfl, dv_app, ih]
    omega
theorem dv_lt : ∀ l : List Nat, (∀ c ∈ l, 48 ≤ c ∧ c ≤ 57) → NumText.digitsVal l < 10 ^ l.length := by
  intro l
  have h : ∀ n, ∀ l : List Nat, l.length = n → (∀ c ∈ l, 48 ≤ c ∧ c ≤ 57) → NumText.digitsVal l < 10 ^ n := by
    intro n
    induction n with
    | zero =>
      intro l hl _
      have : l = [] := List.length_eq_zero_iff.mp hl
      subst this
      decide
    | succ n ih =>
      intro l hl hd
      have hne : l ≠ [] := fun e => by rw [e] at hl; cases hl
      have e := List.dropLast_concat_getLast hne
      have hm := hd (l.getLast hne) (List.getLast_mem hne)
      have h2 := ih l.dropLast (by rw [List.length_dropLast, hl]; rfl) fun c hc => hd c (List.dropLast_subset l hc)
      rw [← e]
      unfold NumText.digitsVal at h2 ⊢
      rw [dv_app, Nat.pow_succ]
      omega
  exact h _ l rfl
theorem padL_dig : ∀ (k n c : Nat), c ∈ WP.padL k n → 48 ≤ c ∧ c ≤ 57
  | 0, _, _, h => by cases h
  | k + 1, n, c, h => by
    rcases List.mem_append.mp (show c ∈ WP.padL k (n / 10) ++ [48 + n % 10] from h) with e | e
    · exact padL_dig k _ c e
    · rw [List.mem_singleton.mp e]; omega
/-! ### the parts of a text -/
def many (p : Pic) (l : List Nat) : Nat := match p with
  | .num _ _ _ => l.length
  | .ed b _ _ _ => b.length
def cutS (p : Pic) (l : List Nat) : List Nat := if p.sgn ∈ [[45], [43]] then l.take 1 else l.drop (many p l)
def cutB (p : Pic) (l : List Nat) : List Nat := if p.sgn ∈ [[45], [43]] then l.drop 1 else l.take (many p l)
def mks (p : Pic) (b : List Nat) : List Nat := match p with
  | .num _ _ _ => List.replicate b.length 57
  | .ed m _ _ _ => m
def NEG : List (List Nat) := [[45], [67, 82], [68, 66]]
def likely (p : Pic) (l : List Nat) : Int :=
  if cutS p l ∈ NEG then -((NumText.digitsVal (lk (mks p (cutB p l)) (cutB p l)) : Nat) : Int) else ((NumText.digitsVal (lk (mks p (cutB p l)) (cutB p l)) : Nat) : Int)
def rd (p : Pic) (l : List Nat) : Option Int := if l.length = siz p ∧ writ p (likely p l) = l then some (likely p l) else none
def rdV : Option Int → V
  | none => .non
  | some u => .int u
def hld (r : MR.Res) (l : List Nat) : Bool := match r with
  | .txt n => decide (l.length = n) && MW.prn l
  | .pic p => (rd p l).isSome
theorem sgm_l : ∀ s ∈ MP.signs, (MR.sgm s).length = (if s = [] then 0 else if s = [99, 114] ∨ s = [100, 98] then 2 else 1) := by decide
theorem sgnT (w f : Nat) : (Pic.num true w f).sgn ∈ [[45], [43]] := show [43] ∈ [[45], [43]] by decide
theorem sgnF (w f : Nat) : ¬ (Pic.num false w f).sgn ∈ [[45], [43]] := show ¬ [] ∈ [[45], [43]] by decide
theorem sgnE (b : List Nat) (w f : Nat) : ¬ (Pic.ed b w f []).sgn ∈ [[45], [43]] := show ¬ [] ∈ [[45], [43]] by decide
theorem neg0 : ¬ ([] : List Nat) ∈ NEG := by decide
/-- the marks go with the body -/
theorem body_ok {p : Pic} {l : List Nat} (ho : p.Ok) (hl : l.length = siz p) : (mks p (cutB p l)).length = (cutB p l).length ∧ ((mks p (cutB p l)).filter isD).length = p.n ∧ (cutB p l).length ≤ 60 := by
  cases p with
  | num sg w f =>
    have h1 : w + f ≤ 18 := ho.2
    have hl : l.length = w + f + (if sg = true then 1 else 0) := hl
    have e : (cutB (.num sg w f) l).length = w + f := by
      unfold cutB
      cases sg with
      | true => rw [if_pos (sgnT w f), List.length_drop]; simp at hl; omega
      | false =>
        rw [if_neg (sgnF w f)]
        show (l.take l.length).length = _
        rw [List.take_length]
        simpa using hl
    refine ⟨List.length_replicate .., ?_, by omega⟩
    show ((List.replicate (cutB (.num sg w f) l).length 57).filter isD).length = w + f
    rw [nine_ct, e]
  | ed b w f s =>
    have hb := ho.2.2.1
    have hl : l.length = b.length + (MR.sgm s).length := hl
    have hs := sgm_l s ho.2.2.2
    have e : (cutB (.ed b w f s) l).length = b.length := by
      unfold cutB
      show (if s ∈ [[45], [43]] then l.drop 1 else l.take b.length).length = _
      by_cases h : s ∈ [[45], [43]]
      · rw [if_pos h, List.length_drop]
        have h' : s = [45] ∨ s = [43] := by simpa using h
        rcases h' with rfl | rfl <;> simp [MR.sgm] at hl <;> omega
      · rw [if_neg h, List.length_take]; omega
    exact ⟨e.symm, hb.ct, by have := hb.ln; omega⟩
theorem figs_ok {p : Pic} {l : List Nat} (ho : p.Ok) (hl : l.length = siz p) : (lk (mks p (cutB p l)) (cutB p l)).length = p.n := by
  obtain ⟨h1, h2, _⟩ := body_ok ho hl
  rw [lk_len _ _ h1, h2]
/-- a sign that is negative stands only where the picture has one -/
theorem neg_sgd {p : Pic} {l : List Nat} (ho : p.Ok) (hl : l.length = siz p) (h : cutS p l ∈ NEG) : p.sgd = true := by
  cases p with
  | num sg w f =>
    cases sg with
    | true => rfl
    | false =>
      exfalso
      unfold cutS at h
      rw [if_neg (sgnF w f)] at h
      have : (l.drop (many (.num false w f) l)) = [] := List.drop_length
      rw [this] at h
      exact neg0 h
  | ed b w f s =>
    by_cases e : s = []
    · exfalso
      subst e
      have hl : l.length = b.length + 0 := hl
      unfold cutS at h
      rw [if_neg (sgnE b w f)] at h
      have : (l.drop (many (.ed b w f []) l)) = [] := List.drop_eq_nil_of_le (by show l.length ≤ b.length; omega)
      rw [this] at h
      exact neg0 h
    · show (!decide (s = [])) = true
      rw [decide_eq_false e]; rfl
theorem likely_suits {p : Pic} {l : List Nat} (ho : p.Ok) (hl : l.length = siz p) : Suits p (likely p l) := by
  have h := dv_lt _ (lk_dig (mks p (cutB p l)) (cutB p l))
  rw [figs_ok ho hl] at h
  unfold likely
  split
  · rename_i hn
    exact ⟨by rw [Int.natAbs_neg, Int.natAbs_natCast]; exact h, .inr (neg_sgd ho hl hn)⟩
  · exact ⟨by rw [Int.natAbs_natCast]; exact h, .inl (by omega)⟩
theorem sg_len : ∀ s ∈ MP.signs, ∀ neg : Bool, (signText s neg).length = (MR.sgm s).length := by decide
theorem sg_neg : ∀ s ∈ MP.signs, s ≠ [] → ∀ neg : Bool, decide (signText s neg ∈ NEG) = neg := by decide
theorem bt_len {b : List Nat} {n : Nat} {fs : List Nat} (hb : Body b n) (hf : ∀ c ∈ fs, 48 ≤ c ∧ c ≤ 57) (hl : fs.length = n) : lk b (bodyText b fs) = fs ∧ (bodyText b fs).length = b.length :=
  lk_body _ (by unfold fillOf; split <;> decide) _ _ _ hf (by rw [hb.ct, hl])
/-- the sign and the body of a field -/
theorem writ_parts {p : Pic} {u : Int} (ho : p.Ok) (hs : Suits p u) : (writ p u).length = siz p ∧ (cutS p (writ p u) ∈ NEG ↔ u < 0) ∧ lk (mks p (cutB p (writ p u))) (cutB p (writ p u)) = WP.padL p.n u.natAbs := by
  have pd := fun c hc => padL_dig p.n u.natAbs c hc
  have pl := WP.padL_len p.n u.natAbs
  cases p with
  | num sg w f =>
    have pl' : (WP.padL (w + f) u.natAbs).length = w + f := pl
    have e : writ (.num sg w f) u = signText (if sg then [43] else []) (decide (u < 0)) ++ WP.padL (w + f) u.natAbs := rfl
    have nine : lk (List.replicate (WP.padL (w + f) u.natAbs).length 57) (WP.padL (w + f) u.natAbs) = WP.padL (w + f) u.natAbs := lk_nine _ pd
    rw [e]
    cases sg with
    | false =>
      have e0 : signText (if false = true then [43] else []) (decide (u < 0)) = [] := rfl
      rw [e0, List.nil_append]
      have eS : cutS (.num false w f) (WP.padL (w + f) u.natAbs) = [] := by
        unfold cutS
        rw [if_neg (sgnF w f)]
        exact List.drop_length
      have eB : cutB (.num false w f) (WP.padL (w + f) u.natAbs) = WP.padL (w + f) u.natAbs := by
        unfold cutB
        rw [if_neg (sgnF w f)]
        exact List.take_length
      refine ⟨pl', ?_, ?_⟩
      · rw [eS]
        have : ¬ u < 0 := by
          rcases hs.2 with h | h
          · omega
          · cases h
        exact ⟨fun h => absurd h neg0, fun h => absurd h this⟩
      · rw [eB]; exact nine
    | true =>
      have hl : (signText (if true = true then [43] else []) (decide (u < 0))).length = 1 := by
        have := sg_len [43] (by decide) (decide (u < 0))
        exact this
      have hn := sg_neg [43] (by decide) (by decide) (decide (u < 0))
      have hn : decide (signText (if true = true then [43] else []) (decide (u < 0)) ∈ NEG) = decide (u < 0) := hn
      generalize signText (if true = true then [43] else []) (decide (u < 0)) = sg at hl hn ⊢
      have eS : cutS (.num true w f) (sg ++ WP.padL (w + f) u.natAbs) = sg := by
        unfold cutS
        rw [if_pos (sgnT w f), List.take_append_of_le_length (by omega), List.take_of_length_le (by omega)]
      have eB : cutB (.num true w f) (sg ++ WP.padL (w + f) u.natAbs) = WP.padL (w + f) u.natAbs := by
        unfold cutB
        rw [if_pos (sgnT w f), ← hl, List.drop_left]
      refine ⟨by rw [List.length_append, hl, pl']; show 1 + (w + f) = w + f + 1; omega, ?_, ?_⟩
      · rw [eS]
        exact decide_eq_decide.mp hn
      · rw [eB]; exact nine
  | ed b w f s =>
    have hb := ho.2.2.1
    have hsg := ho.2.2.2
    obtain ⟨k1, k2⟩ := bt_len (fs := WP.padL (w + f) u.natAbs) hb pd pl
    have hl := sg_len s hsg (decide (u < 0))
    have e : writ (.ed b w f s) u = if s = [45] ∨ s = [43] then signText s (decide (u < 0)) ++ bodyText b (WP.padL (w + f) u.natAbs) else bodyText b (WP.padL (w + f) u.natAbs) ++ signText s (decide (u < 0)) := rfl
    have hneg : signText s (decide (u < 0)) ∈ NEG ↔ u < 0 := by
      by_cases hn : s = []
      · subst hn
        have : ¬ u < 0 := by
          rcases hs.2 with h | h
          · omega
          · cases h
        exact ⟨fun h => absurd h neg0, fun h => absurd h this⟩
      · exact decide_eq_decide.mp (sg_neg s hsg hn (decide (u < 0)))
    rw [e]
    generalize signText s (decide (u < 0)) = sg at *
    generalize bodyText b (WP.padL (w + f) u.natAbs) = T at *
    by_cases c : s = [45] ∨ s = [43]
    · have c' : s ∈ [[45], [43]] := by simpa using c
      have hl1 : sg.length = 1 := by
        rw [hl]
        rcases c with rfl | rfl <;> rfl
      rw [if_pos c]
      have eS : cutS (.ed b w f s) (sg ++ T) = sg := by
        unfold cutS
        rw [if_pos (show (Pic.ed b w f s).sgn ∈ [[45], [43]] from c'), List.take_append_of_le_length (by omega), List.take_of_length_le (by omega)]
      have eB : cutB (.ed b w f s) (sg ++ T) = T := by
        unfold cutB
        rw [if_pos (show (Pic.ed b w f s).sgn ∈ [[45], [43]] from c'), ← hl1, List.drop_left]
      rw [eS, eB]
      exact ⟨by rw [List.length_append, hl, k2]; show _ = b.length + (MR.sgm s).length; omega, hneg, k1⟩
    · have c' : ¬ s ∈ [[45], [43]] := by simpa using c
      rw [if_neg c]
      have eS : cutS (.ed b w f s) (T ++ sg) = sg := by
        unfold cutS
        rw [if_neg (show ¬ (Pic.ed b w f s).sgn ∈ [[45], [43]] from c')]
        show (T ++ sg).drop b.length = sg
        rw [← k2, List.drop_left]
      have eB : cutB (.ed b w f s) (T ++ sg) = T := by
        unfold cutB
        rw [if_neg (show ¬ (Pic.ed b w f s).sgn ∈ [[45], [43]] from c')]
        show (T ++ sg).take b.length = T
        rw [← k2, List.take_left]
      rw [eS, eB]
      exact ⟨by rw [List.length_append, hl, k2]; rfl, hneg, k1⟩
theorem likely_writ {p : Pic} {u : Int} (ho : p.Ok) (hs : Suits p u) : likely p (writ p u) = u := by
  obtain ⟨h1, h2, h3⟩ := writ_parts ho hs
  unfold likely
  rw [h3, dv_pad _ _ hs.1]
  by_cases c : u < 0
  · rw [if_pos (h2.mpr c)]; omega
  · rw [if_neg (fun h => c (h2.mp h))]; omega
theorem rd_writ {p : Pic} {u : Int} (ho : p.Ok) (hs : Suits p u) : rd p (writ p u) = some u := by
  unfold rd
  rw [likely_writ ho hs, if_pos ⟨(writ_parts ho hs).1, rfl⟩]
theorem rd_some {p : Pic} {l : List Nat} {u : Int} (ho : p.Ok) (h : rd p l = some u) : Suits p u ∧ writ p u = l := by
  unfold rd at h
  split at h
  · rename_i c
    cases h
    exact ⟨likely_suits ho c.1, c.2⟩
  · cases h
theorem rd_none {p : Pic} {l : List Nat} (ho : p.Ok) (h : rd p l = none) {u : Int} (hs : Suits p u) : writ p u ≠ l := fun e => by
  rw [← e, rd_writ ho hs] at h
  cases h
theorem siz_le {p : Pic} (ho : p.Ok) : siz p ≤ 64 := by
  cases p with
  | num sg w f =>
    have h1 : w + f ≤ 18 := ho.2
    show w + f + (if sg = true then 1 else 0) ≤ 64
    split <;> omega
  | ed b w f s =>
    have hb := ho.2.2.1.ln
    have hs := sgm_l s ho.2.2.2
    show b.length + (MR.sgm s).length ≤ 64
    rw [hs]
    split
    · omega
    · split <;> omega
theorem cutB_mem {p : Pic} {l : List Nat} {c : Nat} (h : c ∈ cutB p l) : c ∈ l := by
  unfold cutB at h
  split at h
  · exact List.mem_of_mem_drop h
  · exact List.mem_of_mem_take h
theorem figs1 (d : Nat) : MW.figs [d] = decide (48 ≤ d ∧ d ≤ 57) := by
  have e : MW.figs [d] = decide (d ∈ MW.FIG) := by
    unfold MW.figs MW.allIn
    simp
  rw [e]
  congr 1
  refine propext ⟨fun h => ?_, fun ⟨h1, h2⟩ => ?_⟩
  · have h' : d = 48 ∨ d = 49 ∨ d = 50 ∨ d = 51 ∨ d = 52 ∨ d = 53 ∨ d = 54 ∨ d = 55 ∨ d = 56 ∨ d = 57 := by simpa [MW.FIG] using h
    omega
  · have : ∀ d < 58, 48 ≤ d → d ∈ MW.FIG := by decide
    exact this d (by omega) h1
theorem lk_drop {mk bd : List Nat} {i c d : Nat} (h1 : mk[i]? = some c) (h2 : bd[i]? = some d) : lk (mk.drop i) (bd.drop i) = (if isD c = true then [if 48 ≤ d ∧ d ≤ 57 then d else 48] else []) ++ lk (mk.drop (i + 1)) (bd.drop (i + 1)) := by
  rw [drop_some h1, drop_some h2]
  show (if isD c = true then _ else _) = _
  split <;> rfl
theorem flat1 : ∀ l : List Nat, (l.map fun c => [c]).flatten = l
  | [] => rfl
  | c :: l => by rw [List.map_cons, List.flatten_cons, flat1 l]; rfl
theorem sum1 : ∀ l : List Nat, (l.map ((fun x : List Nat => x.length) ∘ fun c => [c])).sum = l.length
  | [] => rfl
  | c :: l => by rw [List.map_cons, List.sum_cons, sum1 l, List.length_cons]; show 1 + _ = _; omega
theorem dig_all {l : List Nat} (h : ∀ c ∈ l, 48 ≤ c ∧ c ≤ 57) : l.all (fun c => decide (48 ≤ c) && decide (c ≤ 57)) = true := by
  rw [List.all_eq_true]
  intro c hc
  rw [Bool.and_eq_true, decide_eq_true_eq, decide_eq_true_eq]
  exact h c hc
/-- the signs at the digits' places, as they stand -/
def raw : List Nat → List Nat → List Nat
  | m :: ms, c :: cs => if isD m = true then c :: raw ms cs else raw ms cs
  | _, _ => []
def fx (c : Nat) : Nat := if 48 ≤ c ∧ c ≤ 57 then c else 48
theorem raw_lk : ∀ ms cs : List Nat, (raw ms cs).map fx = lk ms cs
  | [], _ => by unfold raw lk; rfl
  | _ :: _, [] => by unfold raw lk; rfl
  | m :: ms, c :: cs => by
    unfold raw lk
    by_cases d : isD m = true
    · rw [if_pos d, if_pos d, List.map_cons, raw_lk ms cs]; rfl
    · rw [if_neg d, if_neg d, raw_lk ms cs]
theorem raw_take : ∀ {ms cs : List Nat} {i c d : Nat}, ms[i]? = some c → cs[i]? = some d → raw (ms.take (i + 1)) (cs.take (i + 1)) = raw (ms.take i) (cs.take i) ++ if isD c = true then [d] else []
  | [], _, _, _, _, h, _ => by simp at h
  | _ :: _, [], _, _, _, _, h => by simp at h
  | m :: ms, x :: cs, 0, c, d, h1, h2 => by
    simp at h1 h2
    subst h1 h2
    show raw (m :: []) (x :: []) = raw [] [] ++ _
    unfold raw
    split <;> rfl
  | m :: ms, x :: cs, i + 1, c, d, h1, h2 => by
    have ih := raw_take (ms := ms) (cs := cs) (i := i) (by simpa using h1) (by simpa using h2)
    show raw (m :: ms.take (i + 1)) (x :: cs.take (i + 1)) = raw (m :: ms.take i) (x :: cs.take i) ++ _
    unfold raw
    by_cases d : isD m = true
    · rw [if_pos d, if_pos d, ih]; rfl
    · rw [if_neg d, if_neg d, ih]
theorem fig_mem (c : Nat) : c ∈ [48, 49, 50, 51, 52, 53, 54, 55, 56, 57] ↔ 48 ≤ c ∧ c ≤ 57 := by
  refine ⟨fun h => ?_, fun ⟨h1, h2⟩ => ?_⟩
  · have h' : c = 48 ∨ c = 49 ∨ c = 50 ∨ c = 51 ∨ c = 52 ∨ c = 53 ∨ c = 54 ∨ c = 55 ∨ c = 56 ∨ c = 57 := by simpa using h
    omega
  · have : ∀ d < 58, 48 ≤ d → d ∈ [48, 49, 50, 51, 52, 53, 54, 55, 56, 57] := by decide
    exact this c (by omega) h1
end MF

namespace WP
open PySem PySem.Spec PyProof.Rows L2
theorem op_isBl {X : Cx} : OpR X (compareOp .Is) rIsB := L2.op_isBl
theorem op_notBl {X : Cx} : OpR X (compareOp .IsNot) rNotB := L2.op_notBl
theorem isBl {a b : Bool} {H : Hp} {Q : VK} (q : Q (.bl (decide (a = b))) H) : rIsB (.bl a) (.bl b) H Q := ⟨a, b, rfl, rfl, q⟩
theorem at_C {l : List Nat} {i : Int} (h0 : 0 ≤ i) (h1 : i < (l.length : Int)) : ∃ c, c ∈ l ∧ atI l i = some c := by
  have hl : i.toNat < l.length := by omega
  refine ⟨l[i.toNat], List.getElem_mem hl, ?_⟩
  have := atI_nat (xs := l) (j := i.toNat) (List.getElem?_eq_getElem hl)
  rw [Int.toNat_of_nonneg h0] at this
  exact this
end WP
namespace MF
open PySem PySem.Spec PyProof.Rows L2 MP
theorem range_none (P : Nat → Bool) : ∀ n, (∀ j < n, P j = false) → (List.range n).filter P = [] := fun n h => by
  rw [List.filter_eq_nil_iff]
  intro j hj
  rw [h j (List.mem_range.mp hj)]
  exact Bool.false_ne_true
theorem range_one (P : Nat → Bool) : ∀ n a, a < n → (∀ j < n, P j = decide (j = a)) → (List.range n).filter P = [a]
  | 0, a, h, _ => absurd h (by omega)
  | n + 1, a, h, hp => by
    rw [List.range_succ, List.filter_append]
    by_cases e : a = n
    · subst e
      rw [range_none P a fun j hj => by rw [hp j (by omega)]; exact decide_eq_false (by omega)]
      have : P a = true := by rw [hp a (by omega)]; exact decide_eq_true rfl
      simp [this]
    · rw [range_one P n a (by omega) fun j hj => hp j (by omega)]
      have : P n = false := by rw [hp n (by omega)]; exact decide_eq_false (by omega)
      simp [this]
def knw (p : Pic) (l : List Nat) : List Int := match rd p l with
  | none => []
  | some u => [u]
def fnd1 (p : Pic) (l : List Nat) (i : Nat) : List Int := ((List.range i).filter fun (j : Nat) => decide (writ p (j : Int) = l)).map fun (j : Nat) => (j : Int)
def fnd2 (p : Pic) (l : List Nat) (i : Nat) : List Int := ((List.range i).filter fun (j : Nat) => decide (writ p (-(1 + (j : Int))) = l)).map fun (j : Nat) => -(1 + (j : Int))
theorem fnd1_succ (p : Pic) (l : List Nat) (i : Nat) : fnd1 p l (i + 1) = fnd1 p l i ++ (if writ p (i : Int) = l then [(i : Int)] else []) := by
  unfold fnd1
  rw [List.range_succ, List.filter_append, List.map_append]
  congr 1
  by_cases h : writ p (i : Int) = l
  · simp [h]
  · simp [h]
theorem fnd2_succ (p : Pic) (l : List Nat) (i : Nat) : fnd2 p l (i + 1) = fnd2 p l i ++ (if writ p (-(1 + (i : Int))) = l then [-(1 + (i : Int))] else []) := by
  unfold fnd2
  rw [List.range_succ, List.filter_append, List.map_append]
  congr 1
  by_cases h : writ p (-(1 + (i : Int))) = l
  · simp [h]
  · simp [h]
theorem fnd1_len (p : Pic) (l : List Nat) (i : Nat) : (fnd1 p l i).length ≤ i := by
  unfold fnd1
  rw [List.length_map]
  exact Nat.le_trans (List.length_filter_le _ (List.range i)) (Nat.le_of_eq List.length_range)
theorem fnd2_len (p : Pic) (l : List Nat) (i : Nat) : (fnd2 p l i).length ≤ i := by
  unfold fnd2
  rw [List.length_map]
  exact Nat.le_trans (List.length_filter_le _ (List.range i)) (Nat.le_of_eq List.length_range)
theorem writ_iff {p : Pic} {l : List Nat} {u v : Int} (ho : p.Ok) (h : rd p l = some u) (hv : Suits p v) : writ p v = l ↔ v = u := by
  refine ⟨fun e => ?_, fun e => by rw [e]; exact (rd_some ho h).2⟩
  rw [← e, rd_writ ho hv] at h
  exact Option.some.inj h
theorem known_eq {p : Pic} {l : List Nat} (ho : p.Ok) : fnd1 p l (10 ^ p.n) ++ (if p.sgd = true then fnd2 p l (10 ^ p.n - 1) else []) = knw p l := by
  have hT : 0 < 10 ^ p.n := Nat.pow_pos (by decide)
  have s1 : ∀ j : Nat, j < 10 ^ p.n → Suits p (j : Int) := fun j hj => ⟨by rw [Int.natAbs_natCast]; exact hj, .inl (by omega)⟩
  have s2 : p.sgd = true → ∀ j : Nat, j < 10 ^ p.n - 1 → Suits p (-(1 + (j : Int))) := fun h j hj => ⟨by omega, .inr h⟩
  unfold knw
  cases e : rd p l with
  | none =>
    have f1 : fnd1 p l (10 ^ p.n) = [] := by
      unfold fnd1
      rw [range_none _ _ fun j hj => decide_eq_false (rd_none ho e (s1 j hj))]
      rfl
    rw [f1, List.nil_append]
    split
    · rename_i h
      unfold fnd2
      rw [range_none _ _ fun j hj => decide_eq_false (rd_none ho e (s2 h j hj))]
      rfl
    · rfl
  | some u =>
    have hu := (rd_some ho e).1
    by_cases c : u < 0
    · have f1 : fnd1 p l (10 ^ p.n) = [] := by
        unfold fnd1
        rw [range_none _ _ fun j hj => decide_eq_false (fun z => by have := (writ_iff ho e (s1 j hj)).mp z; omega)]
        rfl
      have hs : p.sgd = true := by
        rcases hu.2 with h | h
        · omega
        · exact h
      rw [f1, List.nil_append, if_pos hs]
      unfold fnd2
      rw [range_one _ (10 ^ p.n - 1) (-u - 1).toNat (by have := hu.1; omega) fun j hj => ?_]
      · show [-(1 + (((-u - 1).toNat : Nat) : Int))] = [u]
        congr 1
        omega
      · rw [decide_eq_decide, writ_iff ho e (s2 hs j hj)]
        omega
    · have f1 : fnd1 p l (10 ^ p.n) = [u] := by
        unfold fnd1
        rw [range_one _ (10 ^ p.n) u.toNat (by have := hu.1; omega) fun j hj => ?_]
        · show [((u.toNat : Nat) : Int)] = [u]
          congr 1
          omega
        · rw [decide_eq_decide, writ_iff ho e (s1 j hj)]
          omega
      rw [f1]
      split
      · rename_i h
        unfold fnd2
        rw [range_none _ _ fun j hj => decide_eq_false (fun z => by have := (writ_iff ho e (s2 h j hj)).mp z; omega)]
        rfl
      · rfl
/-- the signs that may be put in -/
def CHG : List Nat := [48, 49, 53, 57, 32, 42, 45, 43, 44, 46, 47, 67, 82, 68, 66, 10, 120]
def TXB : List Nat := [97, 98, 32, 99, 47]
theorem prn_nl {l : List Nat} (h : ∀ c ∈ l, c ∈ TXB ∨ c ∈ CHG) : MW.prn l = !decide (10 ∈ l) := by
  unfold MW.prn
  by_cases e : 10 ∈ l
  · rw [decide_eq_true e]
    have : l.all (fun c => decide (32 ≤ c ∧ c ≤ 126 ∧ c ≠ 37)) = false := by
      rw [List.all_eq_false]
      exact ⟨10, e, by decide⟩
    rw [this]; rfl
  · rw [decide_eq_false e]
    have : l.all (fun c => decide (32 ≤ c ∧ c ≤ 126 ∧ c ≠ 37)) = true := by
      rw [List.all_eq_true]
      intro c hc
      have k : ∀ c ∈ TXB ++ CHG, c ≠ 10 → decide (32 ≤ c ∧ c ≤ 126 ∧ c ≠ 37) = true := by decide
      refine k c ?_ (fun z => e (z ▸ hc))
      rw [List.mem_append]
      exact h c hc
    rw [this]; rfl
def TX3 : List Nat := TXB ++ TXB ++ TXB
theorem mul3 : Txt.mul (SX.S TXB) 3 = SX.S TX3 := by decide +kernel
theorem mulOk3 : MulOk (SX.S TXB) 3 := by
  refine ⟨by decide +kernel, fun _ _ => by decide +kernel, fun _ _ => ?_⟩
  unfold Builtin.Str.tooLong
  exact decide_eq_false (by rw [sizeLine_eq]; decide +kernel)
theorem hld_eq {n : Nat} {l : List Nat} (h : ∀ c ∈ l, c ∈ TXB ∨ c ∈ CHG) : hld (.txt n) l = (decide (l.length = n) && !decide (10 ∈ l)) := by
  show (decide (l.length = n) && MW.prn l) = _
  rw [prn_nl h]
theorem chg_lt : ∀ c ∈ CHG, c < 128 := by decide
theorem txb_lt : ∀ c ∈ TXB, c < 128 := by decide
theorem tx3_mem {c : Nat} (h : c ∈ TX3) : c ∈ TXB := by
  unfold TX3 at h
  rw [List.mem_append, List.mem_append] at h
  rcases h with (h | h) | h <;> exact h
theorem writ_lt {p : Pic} {u : Int} (ho : p.Ok) : ∀ c ∈ writ p u, c < 128 := fun c hc => by
  cases p with
  | num sg w f =>
    rcases List.mem_append.mp (show c ∈ signText (if sg then [43] else []) (decide (u < 0)) ++ WP.padL (w + f) u.natAbs from hc) with e | e
    · refine signText_lt _ ?_ _ c e
      cases sg
      · exact (show ([] : List Nat) ∈ MP.signs by decide)
      · exact (show ([43] : List Nat) ∈ MP.signs by decide)
    · have := padL_dig _ _ c e
      omega
  | ed b w f s =>
    have hb : ∀ c ∈ bodyText b (WP.padL (w + f) u.natAbs), c < 128 := bodyF_lt _ (by unfold fillOf; split <;> decide) _ _ _ ho.2.2.1.ok (fun c hc => by have := padL_dig _ _ c hc; omega)
    have hs := signText_lt s ho.2.2.2 (decide (u < 0))
    have hc' : c ∈ (if s = [45] ∨ s = [43] then signText s (decide (u < 0)) ++ bodyText b (WP.padL (w + f) u.natAbs) else bodyText b (WP.padL (w + f) u.natAbs) ++ signText s (decide (u < 0))) := hc
    split at hc'
    · rcases List.mem_append.mp hc' with e | e
      · exact hs c e
      · exact hb c e
    · rcases List.mem_append.mp hc' with e | e
      · exact hb c e
      · exact hs c e
theorem mulTX {H : Hp} {Q : VK} (q : Q (.str (SX.S TX3)) H) : WP.rMulS (.str (SX.S [97, 98, 32, 99, 47])) (.int 3) H Q := ⟨SX.S TXB, 3, rfl, rfl, mulOk3, by rw [mul3]; exact q⟩
end MF

namespace WP
open PySem PySem.Spec PyProof.Rows L2
theorem at_M {α : Type} {l : List α} (f : α → V) {i : Int} (h0 : 0 ≤ i) (h1 : i < (l.length : Int)) : ∃ c, c ∈ l ∧ atI (l.map f) i = some (f c) := by
  have hl : i.toNat < l.length := by omega
  refine ⟨l[i.toNat], List.getElem_mem hl, ?_⟩
  have := atI_nat (xs := l.map f) (j := i.toNat) (by rw [List.getElem?_map, List.getElem?_eq_getElem hl]; rfl)
  rw [Int.toNat_of_nonneg h0] at this
  exact this
theorem flat_one {α : Type} (x : α) : ∀ k : Nat, (List.replicate k [x]).flatten = List.replicate k x
  | 0 => rfl
  | k + 1 => by rw [List.replicate_succ, List.flatten_cons, flat_one x k, List.replicate_succ]; rfl
theorem rep1 {H : Hp} {Q : VK} {p : Addr} {x : V} {k : Int} (h : H p = some (.lst [x])) (k0 : 0 ≤ k) (k1 : k ≤ 1000) (q : ∀ a, H a = none → Q (.ref a) (upd H a (.lst (List.replicate k.toNat x)))) : rRep (.ref p) (.int k) H Q :=
  ⟨p, k, [x], rfl, rfl, h, by omega, by omega, by rw [sizeLine_eq]; simp; omega, fun a ha => by rw [flat_one]; exact q a ha⟩
theorem catLL {H : Hp} {Q : VK} {p b : Addr} {xs ys : List V} (h : H p = some (.lst xs)) (h2 : H b = some (.lst ys)) (hz : xs.length + ys.length ≤ 1000000) (q : ∀ a, H a = none → Q (.ref a) (upd H a (.lst (xs ++ ys)))) : rCat (.ref p) (.ref b) H Q :=
  ⟨p, b, xs, ys, rfl, rfl, h, h2, by rw [sizeLine_eq]; omega, q⟩
/-- all but what stands at d stays, tables stay tables -/
structure Sn (d : Addr) (H H' : Hp) : Prop where
  k : ∀ b u, b ≠ d → H b = some u → NT u → H' b = some u
  t : ∀ P, GxR.TabG H P → GxR.TabG H' P
theorem Sn.refl {d : Addr} {H : Hp} : Sn d H H := ⟨fun _ _ _ e _ => e, fun _ h => h⟩
theorem Sn.trans {d : Addr} {H H' H2 : Hp} (a : Sn d H H') (b : Sn d H' H2) : Sn d H H2 := ⟨fun x u m e n => b.k x u m (a.k x u m e n) n, fun P h => b.t P (a.t P h)⟩
theorem Sn.of {d : Addr} {H H' : Hp} (e : Sm H H') : Sn d H H' := ⟨fun b u _ h n => e.k b u h n, e.t⟩
theorem Sn.sx {d : Addr} {H H' : Hp} {ys : List V} (e : Sx d H H') (hd : H d = some (.lst ys)) : Sn d H H' := ⟨fun b u m h _ => e b u m h, fun P ⟨ps, h, t⟩ => ⟨ps, e P _ (fun z => by rw [z, hd] at h; cases h) h, t⟩⟩
theorem Sn.tup {K : PySem.W.Frag} {d : Addr} {H H' : Hp} {p : Addr} {xs ys : List V} (e : Sn d H H') (hd : H d = some (.lst ys)) (h : SqT K H p xs) : SqT K H' p xs := by
  rcases h with (h | ⟨o, h⟩) | h
  · exact .inl (.inl (e.k _ _ (fun z => by rw [z, hd] at h; cases h) h nt_tup))
  · exact .inl (.inr ⟨o, e.k _ _ (fun z => by rw [z, hd] at h; cases h) h nt_frz⟩)
  · exact .inr h
end WP
namespace WP
open PySem PySem.Spec PyProof.Rows L2
theorem bt8 {m : Int} (h : m.natAbs ≤ 10 ^ 18) : Bt m 8000 := Nat.lt_of_le_of_lt h (Nat.lt_of_lt_of_le (show 10 ^ 18 < 2 ^ 60 by decide) (Nat.pow_le_pow_right (by decide) (by decide)))
end WP
namespace WP
open PySem PySem.Spec PyProof.Rows L2
theorem par {i j : Nat} {ta : TA} {D : Ends} {σ : L2.St} {H : Hp} (h : ta σ H fun vs H1 => ∃ v w, vs = [v, w] ∧ D.nx ((σ.set i (some v)).set j (some w)) H1) : tPar i j ta D σ H := h
end WP
namespace WP
open PySem PySem.Spec PyProof.Rows L2
theorem ifSv {c : Prop} [Decidable c] {a b : List Nat} {i : Nat} {σ : L2.St} {H : Hp} {Q : VK} (hv : σ[i]? = some (some (.str (SX.S b)))) (q : Q (.str (SX.S (if c then a else b))) H) : if decide c = true then tC (.str (SX.S a)) σ H Q else tVar i σ H Q := by
  by_cases h : c
  · rw [if_pos (decide_eq_true h)]; rw [if_pos h] at q; exact WP.con q
  · rw [if_neg (by rw [decide_eq_false h]; exact Bool.false_ne_true)]; rw [if_neg h] at q; exact WP.var hv q
end WP
namespace WP
open PySem PySem.Spec PyProof.Rows L2
theorem notBl {a b : Bool} {H : Hp} {Q : VK} (q : Q (.bl (!decide (a = b))) H) : rNotB (.bl a) (.bl b) H Q := ⟨a, b, rfl, rfl, q⟩
end WP

namespace MK
open PySem PySem.Spec PyProof.Rows L2 CwR PySem.StrLaws
open SX (S)
/-- quotes doubled -/
def dq : List Nat → List Nat
  | [] => []
  | c :: r => if c = 39 then 39 :: 39 :: dq r else c :: dq r
theorem dq_q (r : List Nat) : dq (39 :: r) = 39 :: 39 :: dq r := rfl
theorem dq_c {c : Nat} (h : c ≠ 39) (r : List Nat) : dq (c :: r) = c :: dq r := by
  show (if c = 39 then _ else _) = _
  rw [if_neg h]
theorem dq_app (a b : List Nat) : dq (a ++ b) = dq a ++ dq b := by
  induction a with
  | nil => rfl
  | cons c r ih =>
    by_cases h : c = 39
    · subst h
      rw [List.cons_append, dq_q, dq_q, ih]; rfl
    · rw [List.cons_append, dq_c h, dq_c h, ih]; rfl
theorem dq_len (l : List Nat) : (dq l).length ≤ 2 * l.length := by
  induction l with
  | nil => exact Nat.le_refl _
  | cons c r ih =>
    unfold dq
    split
    · simp only [List.length_cons]; omega
    · simp only [List.length_cons]; omega
theorem dq_L : ∀ l : List Nat, replL [39] [39, 39] l = dq l
  | [] => replL_nil
  | c :: r => by
    by_cases h : c = 39
    · subst h
      rw [replL_hit (by decide) rfl]
      show [39, 39] ++ replL [39] [39, 39] r = _
      rw [dq_L r]
      rfl
    · rw [replL_miss (by simpa using h), dq_L r]
      unfold dq
      rw [if_neg h]
      cases r <;> rfl
theorem uq_L : ∀ l : List Nat, replL [39, 39] [39] (dq l) = l
  | [] => replL_nil
  | c :: r => by
    by_cases h : c = 39
    · subst h
      show replL [39, 39] [39] (39 :: 39 :: dq r) = _
      rw [replL_hit (by decide) rfl]
      show [39] ++ replL [39, 39] [39] (dq r) = _
      rw [uq_L r]
      rfl
    · have e : dq (c :: r) = c :: dq r := by show (if c = 39 then _ else _) = _; rw [if_neg h]
      rw [e, replL_miss (by
        show ¬ c :: (dq r).take 1 = [39, 39]
        intro z
        exact h (by injection z)), uq_L r]
theorem ofL {s : Str} {l : List Nat} (h : s.cps.toList = l) : s = S l := by
  cases s with
  | mk a => 
    have : a.toList = l := h
    subst this
    show Str.mk a = Str.mk a.toList.toArray
    rw [Array.toArray_toList]
theorem toL (l : List Nat) : (S l).cps.toList = l := rfl
theorem repl_dq (l : List Nat) : Txt.replace (S l) ("'" : Str) ("''" : Str) = S (dq l) := by
  refine ofL ?_
  rw [replace_list (by decide +kernel), toL]
  have e1 : ("'" : Str).cps.toList = [39] := by decide +kernel
  have e2 : ("''" : Str).cps.toList = [39, 39] := by decide +kernel
  rw [e1, e2, dq_L]
theorem repl_uq (l : List Nat) : Txt.replace (S (dq l)) ("''" : Str) ("'" : Str) = S l := by
  refine ofL ?_
  rw [replace_list (by decide +kernel), toL]
  have e1 : ("'" : Str).cps.toList = [39] := by decide +kernel
  have e2 : ("''" : Str).cps.toList = [39, 39] := by decide +kernel
  rw [e1, e2, uq_L]
def MA : List Nat := [32, 33, 34, 35, 36, 38, 40, 41, 42, 43, 44, 45, 46, 47, 48, 49, 50, 51, 52, 53, 54, 55, 56, 57, 58, 59, 60, 61, 62, 63, 64, 65, 66, 67, 68, 69, 70, 71, 72, 73, 74, 75, 76, 77, 78, 79, 80, 81, 82, 83, 84, 85, 86, 87, 88, 89, 90, 91, 92, 93, 94, 95, 96]
def MB : List Nat := [97, 98, 99, 100, 101, 102, 103, 104, 105, 106, 107, 108, 109, 110, 111, 112, 113, 114, 115, 116, 117, 118, 119, 120, 121, 122, 123, 124, 125, 126, 39]
def MW : List Nat := [97, 98, 99, 100, 101, 102, 103, 104, 105, 106, 107, 108, 109, 110, 111, 112, 113, 114, 115, 116, 117, 118, 119, 120, 121, 122, 65, 66, 67, 68, 69, 70, 71, 72, 73, 74, 75, 76, 77, 78, 79, 80, 81, 82, 83, 84, 85, 86, 87, 88, 89, 90, 48, 49, 50, 51, 52, 53, 54, 55, 56, 57, 33, 34, 35, 36, 38, 40, 41, 42, 43, 44, 45, 46, 47, 58, 59, 60, 61, 62, 63, 64, 91, 92, 93, 94, 95, 124, 123, 125, 126]
theorem ma_ok : ∀ c ∈ MA ++ MB, 32 ≤ c ∧ c ≤ 126 ∧ c ≠ 37 := by decide
theorem mw_ok : ∀ c ∈ MW, 33 ≤ c ∧ c ≤ 126 ∧ c ≠ 37 ∧ c ≠ 39 := by decide
/-- where the string ends: its last quote -/
def sEnd : List Nat → Nat → Option Nat
  | [], _ => none
  | [c], n => if c = 39 then some n else none
  | c :: d :: r, n => if c = 39 then (if d = 39 then sEnd r (n + 2) else some n) else sEnd (d :: r) (n + 1)
theorem sEnd_c {c : Nat} (h : c ≠ 39) (r : List Nat) (n : Nat) : sEnd (c :: r) n = sEnd r (n + 1) := by
  cases r with
  | nil => show (if c = 39 then _ else _) = _; rw [if_neg h]; rfl
  | cons d r => show (if c = 39 then _ else _) = _; rw [if_neg h]
theorem sEnd_none : ∀ (m : List Nat) (n : Nat), MT.cutR 39 m = none → sEnd m n = none
  | [], n, _ => rfl
  | c :: r, n, h => by
    by_cases e : c = 39
    · subst e
      rw [MR.cut_consEq.2] at h; cases h
    · rw [(MR.cut_consNe e).2] at h
      rw [sEnd_c e, sEnd_none r _ h]
theorem sEnd_some : ∀ (m : List Nat) (n : Nat) (q : List Nat), MT.cutR 39 m = some q → sEnd m n = (if q.take 1 = [39] then sEnd (q.drop 1) (n + (MT.cutW 39 m).length + 2) else some (n + (MT.cutW 39 m).length)) ∧ m.drop ((MT.cutW 39 m).length + 1) = q ∧ (MT.cutW 39 m).length < m.length
  | [], n, q, h => by
    have : MT.cutR 39 [] = none := rfl
    rw [this] at h; cases h
  | c :: r, n, q, h => by
    by_cases e : c = 39
    · subst e
      rw [MR.cut_consEq.2] at h
      cases h
      rw [MR.cut_consEq.1]
      refine ⟨?_, rfl, by show 0 < _ + 1; omega⟩
      cases r with
      | nil => rfl
      | cons d r =>
        show (if (39 : Nat) = 39 then (if d = 39 then sEnd r (n + 2) else some n) else _) = _
        rw [if_pos rfl]
        by_cases e : d = 39
        · subst e
          rfl
        · rw [if_neg e, if_neg (by simpa using e)]; rfl
    · rw [(MR.cut_consNe e).2] at h
      obtain ⟨h1, h2, h3⟩ := sEnd_some r (n + 1) q h
      rw [(MR.cut_consNe e).1, sEnd_c e, h1]
      refine ⟨?_, ?_, by show (MT.cutW 39 r).length + 1 < r.length + 1; omega⟩
      · show _ = (if q.take 1 = [39] then sEnd (q.drop 1) (n + ((MT.cutW 39 r).length + 1) + 2) else some (n + ((MT.cutW 39 r).length + 1)))
        rw [show n + 1 + (MT.cutW 39 r).length = n + ((MT.cutW 39 r).length + 1) by omega]
      · exact h2
end MK

namespace D
open PySem PySem.Spec PyProof.Rows L2
/-! ### tokens of lines -/
/-- where the word ends -/
def eow (l : List Nat) (s : Nat) : Nat := s + (MT.cutW 32 (l.drop s)).length
/-- a token: is it a string, its text -/
abbrev Tk := Bool × List Nat
def Tk.vs (r : Int) (t : Tk) : List V := [.int r, .str (SX.S (if t.1 = true then [115, 116, 114, 105, 110, 103] else [119, 111, 114, 100])), .str (SX.S t.2)]
/-- the tokens of a line, from a place on; none where it is at fault -/
inductive Run (l : List Nat) : Nat → Option (List Tk) → Prop where
  | stop {n : Nat} (h : l.length ≤ n) : Run l n (some [])
  | space {n : Nat} {o : Option (List Tk)} (h : l[n]? = some 32) (r : Run l (n + 1) o) : Run l n o
  | str {n a : Nat} {s : List Nat} {o : Option (List Tk)} (h : l[n]? = some 39) (e : MK.sEnd (l.drop (n + 1)) (n + 1) = some a) (g : (l.drop (a + 1)).take 1 ∈ [[], [32]]) (hs : (l.drop (n + 1)).take (a - (n + 1)) = MK.dq s) (ha : n < a ∧ a < l.length) (r : Run l (a + 1) o) : Run l n (o.map ((true, s) :: ·))
  | bad1 {n : Nat} (h : l[n]? = some 39) (e : MK.sEnd (l.drop (n + 1)) (n + 1) = none) : Run l n none
  | bad2 {n a : Nat} (h : l[n]? = some 39) (e : MK.sEnd (l.drop (n + 1)) (n + 1) = some a) (g : ¬ (l.drop (a + 1)).take 1 ∈ [[], [32]]) : Run l n none
  | word {n c : Nat} {o : Option (List Tk)} (h : l[n]? = some c) (h1 : c ≠ 32) (h2 : c ≠ 39) (g : ¬ 39 ∈ MT.cutW 32 (l.drop n)) (r : Run l (eow l n) o) : Run l n (o.map ((false, MT.cutW 32 (l.drop n)) :: ·))
  | bad3 {n c : Nat} (h : l[n]? = some c) (h1 : c ≠ 32) (h2 : c ≠ 39) (g : 39 ∈ MT.cutW 32 (l.drop n)) : Run l n none
def lns (l : List Nat) : List (List Nat) := TL.spl [10] 0 [] l
/-- the tokens of the lines, with their rows -/
def rowsF : Nat → List (List Tk) → List (Nat × Tk)
  | _, [] => []
  | n, ts :: r => ts.map (fun t => (n, t)) ++ rowsF (n + 1) r
theorem rowsF_app (n : Nat) (a : List (List Tk)) (b : List Tk) : rowsF n (a ++ [b]) = rowsF n a ++ b.map (fun t => (n + a.length, t)) := by
  induction a generalizing n with
  | nil => show b.map _ ++ rowsF (n + 1) [] = [] ++ b.map _; rw [show rowsF (n + 1) [] = [] from rfl, List.append_nil]; rfl
  | cons x r ih =>
    show x.map _ ++ rowsF (n + 1) (r ++ [b]) = (x.map _ ++ rowsF (n + 1) r) ++ _
    rw [ih, List.append_assoc, List.length_cons, show n + 1 + r.length = n + (r.length + 1) by omega]

end D

namespace D
open PySem PySem.Spec PyProof.Rows L2
/-- from a suffix of a line on -/
def RunS (s : List Nat) (o : Option (List Tk)) : Prop := ∀ p : List Nat, Run (p ++ s) p.length o
theorem app_at (p s : List Nat) (c : Nat) : (p ++ c :: s)[p.length]? = some c := by
  rw [List.getElem?_append_right (Nat.le_refl _), Nat.sub_self]; rfl
theorem RunS.nil : RunS [] (some []) := fun p => .stop (by rw [List.append_nil]; exact Nat.le_refl _)
theorem RunS.sp {s : List Nat} {o : Option (List Tk)} (h : RunS s o) : RunS (32 :: s) o := fun p => by
  refine .space (app_at p s 32) ?_
  have := h (p ++ [32])
  rw [List.append_assoc, List.length_append] at this
  exact this
theorem cutW_app {c : Nat} {w s : List Nat} (h : ∀ x ∈ w, x ≠ c) : MT.cutW c (w ++ s) = w ++ MT.cutW c s := by
  induction w with
  | nil => rfl
  | cons x w ih =>
    rw [List.cons_append, (MR.cut_consNe (h x List.mem_cons_self)).1, ih fun y hy => h y (List.mem_cons_of_mem _ hy)]; rfl
theorem cutW_end {c : Nat} {s : List Nat} (h : s = [] ∨ ∃ t, s = c :: t) : MT.cutW c s = [] := by
  rcases h with rfl | ⟨t, rfl⟩
  · rfl
  · exact MR.cut_consEq.1
theorem RunS.word {w s : List Nat} {o : Option (List Tk)} (hw : w ≠ []) (hc : ∀ c ∈ w, c ≠ 32 ∧ c ≠ 39) (hs : s = [] ∨ ∃ t, s = 32 :: t) (h : RunS s o) : RunS (w ++ s) (o.map ((false, w) :: ·)) := fun p => by
  have e1 : MT.cutW 32 ((p ++ (w ++ s)).drop p.length) = w := by
    rw [List.drop_left, cutW_app fun x hx => (hc x hx).1, cutW_end hs, List.append_nil]
  obtain ⟨c, w', rfl⟩ := List.exists_cons_of_ne_nil hw
  have hr : Run (p ++ (c :: w' ++ s)) (eow (p ++ (c :: w' ++ s)) p.length) o := by
    unfold eow
    rw [e1]
    have := h (p ++ (c :: w'))
    rw [List.append_assoc, List.length_append] at this
    exact this
  have := Run.word (app_at p (w' ++ s) c) (hc c List.mem_cons_self).1 (hc c List.mem_cons_self).2 (by
    show ¬ 39 ∈ MT.cutW 32 ((p ++ (c :: w' ++ s)).drop p.length)
    rw [e1]; exact fun z => (hc 39 z).2 rfl) hr
  have e2 : MT.cutW 32 ((p ++ c :: (w' ++ s)).drop p.length) = c :: w' := e1
  rw [e2] at this
  exact this
theorem sEnd_skip {w t : List Nat} (h : ∀ c ∈ w, c ≠ 39) (n : Nat) : MK.sEnd (w ++ t) n = MK.sEnd t (n + w.length) := by
  induction w generalizing n with
  | nil => rfl
  | cons c w ih =>
    rw [List.cons_append, MK.sEnd_c (h c List.mem_cons_self), ih (fun x hx => h x (List.mem_cons_of_mem _ hx)), List.length_cons, show n + 1 + w.length = n + (w.length + 1) by omega]
theorem sEnd_no {w : List Nat} (h : ∀ c ∈ w, c ≠ 39) (n : Nat) : MK.sEnd w n = none := by
  have := sEnd_skip (t := []) h n
  rw [List.append_nil] at this
  rw [this]; rfl
theorem sEnd_q {s : List Nat} (h : ∀ c, s.head? = some c → c ≠ 39) (n : Nat) : MK.sEnd (39 :: s) n = some n := by
  cases s with
  | nil => rfl
  | cons d r =>
    show (if (39 : Nat) = 39 then (if d = 39 then MK.sEnd r (n + 2) else some n) else _) = _
    rw [if_pos rfl, if_neg (h d rfl)]
theorem sEnd_dq (q : List Nat) {s : List Nat} (h : ∀ c, s.head? = some c → c ≠ 39) (n : Nat) : MK.sEnd (MK.dq q ++ 39 :: s) n = some (n + (MK.dq q).length) := by
  induction q generalizing n with
  | nil => exact sEnd_q h n
  | cons c q ih =>
    by_cases e : c = 39
    · subst e
      rw [MK.dq_q]
      show (if (39 : Nat) = 39 then (if (39 : Nat) = 39 then MK.sEnd (MK.dq q ++ 39 :: s) (n + 2) else some n) else _) = _
      rw [if_pos rfl, if_pos rfl, ih, List.length_cons, List.length_cons, show n + 2 + (MK.dq q).length = n + ((MK.dq q).length + 1 + 1) by omega]
    · rw [MK.dq_c e, List.cons_append, MK.sEnd_c e, ih, List.length_cons, show n + 1 + (MK.dq q).length = n + ((MK.dq q).length + 1) by omega]
theorem RunS.str {q s : List Nat} {o : Option (List Tk)} (hs : s = [] ∨ ∃ t, s = 32 :: t) (h : RunS s o) : RunS (39 :: (MK.dq q ++ 39 :: s)) (o.map ((true, q) :: ·)) := fun p => by
  have hh : ∀ c, s.head? = some c → c ≠ 39 := by
    rintro c hc rfl
    rcases hs with rfl | ⟨t, rfl⟩
    · cases hc
    · cases hc
  have d1 : (p ++ 39 :: (MK.dq q ++ 39 :: s)).drop (p.length + 1) = MK.dq q ++ 39 :: s := by
    rw [← List.drop_drop, List.drop_left]; rfl
  have d2 : (p ++ 39 :: (MK.dq q ++ 39 :: s)).drop (p.length + 1 + (MK.dq q).length + 1) = s := by
    rw [← List.drop_drop, ← List.drop_drop, d1, List.drop_left]; rfl
  refine Run.str (a := p.length + 1 + (MK.dq q).length) (app_at p _ 39) (by rw [d1]; exact sEnd_dq q hh _) (by
    rw [d2]
    rcases hs with rfl | ⟨t, rfl⟩
    · exact List.mem_cons_self
    · exact List.mem_cons_of_mem _ List.mem_cons_self) (by
    rw [d1, show p.length + 1 + (MK.dq q).length - (p.length + 1) = (MK.dq q).length by omega, List.take_left]) ⟨by omega, by
      rw [List.length_append, List.length_cons, List.length_append, List.length_cons]; omega⟩ ?_
  have := h (p ++ 39 :: (MK.dq q ++ [39]))
  have e1 : p ++ 39 :: (MK.dq q ++ [39]) ++ s = p ++ 39 :: (MK.dq q ++ 39 :: s) := by simp
  have e2 : (p ++ 39 :: (MK.dq q ++ [39])).length = p.length + 1 + (MK.dq q).length + 1 := by
    rw [List.length_append, List.length_cons, List.length_append, List.length_singleton]; omega
  rw [e1, e2] at this
  exact this
theorem RunS.bad1 {m : List Nat} (h : ∀ n, MK.sEnd m n = none) : RunS (39 :: m) none := fun p => by
  refine Run.bad1 (app_at p m 39) ?_
  rw [← List.drop_drop, List.drop_left]
  exact h _
theorem RunS.bad2 {w s : List Nat} {c : Nat} (hw : ∀ x ∈ w, x ≠ 39) (h1 : c ≠ 39) (h2 : c ≠ 32) : RunS (39 :: (w ++ 39 :: c :: s)) none := fun p => by
  have d1 : (p ++ 39 :: (w ++ 39 :: c :: s)).drop (p.length + 1) = w ++ 39 :: c :: s := by
    rw [← List.drop_drop, List.drop_left]; rfl
  have d2 : (p ++ 39 :: (w ++ 39 :: c :: s)).drop (p.length + 1 + w.length + 1) = c :: s := by
    rw [← List.drop_drop, ← List.drop_drop, d1, List.drop_left]; rfl
  refine Run.bad2 (a := p.length + 1 + w.length) (app_at p _ 39) (by rw [d1, sEnd_skip hw]; exact sEnd_q (fun x hx => by cases hx; exact h1) _) ?_
  rw [d2]
  intro z
  rcases List.mem_cons.mp z with z | z
  · cases z
  · have := List.mem_singleton.mp z
    injection this with a b
    exact h2 a
theorem RunS.bad3 {w s : List Nat} (hw : w ≠ []) (hc : ∀ c ∈ w, c ≠ 32 ∧ c ≠ 39) : RunS (w ++ 39 :: s) none := fun p => by
  obtain ⟨c, w', rfl⟩ := List.exists_cons_of_ne_nil hw
  refine Run.bad3 (app_at p (w' ++ 39 :: s) c) (hc c List.mem_cons_self).1 (hc c List.mem_cons_self).2 ?_
  show 39 ∈ MT.cutW 32 ((p ++ (c :: w' ++ 39 :: s)).drop p.length)
  rw [List.drop_left, cutW_app fun x hx => (hc x hx).1, (MR.cut_consNe (show (39 : Nat) ≠ 32 by decide)).1]
  exact List.mem_append.mpr (.inr List.mem_cons_self)
/-! ### lines -/
def lf : List Nat → List (List Nat)
  | [] => [[]]
  | c :: r => if c = 10 then [] :: lf r else match lf r with
    | h :: t => (c :: h) :: t
    | [] => [[c]]
theorem lf_ne : ∀ l : List Nat, ∃ h t, lf l = h :: t
  | [] => ⟨[], [], rfl⟩
  | c :: r => by
    obtain ⟨h, t, e⟩ := lf_ne r
    by_cases k : c = 10
    · exact ⟨[], lf r, by show (if c = 10 then _ else _) = _; rw [if_pos k]⟩
    · exact ⟨c :: h, t, by show (if c = 10 then _ else _) = _; rw [if_neg k, e]⟩
theorem lf_nl (r : List Nat) : lf (10 :: r) = [] :: lf r := by
  show (if (10 : Nat) = 10 then _ else _) = _
  rw [if_pos rfl]
theorem lf_c {c : Nat} {r h : List Nat} {t : List (List Nat)} (k : c ≠ 10) (e : lf r = h :: t) : lf (c :: r) = (c :: h) :: t := by
  show (if c = 10 then _ else _) = _
  rw [if_neg k, e]
theorem lf_app {a b h : List Nat} {t : List (List Nat)} (k : ∀ c ∈ a, c ≠ 10) (e : lf b = h :: t) : lf (a ++ b) = (a ++ h) :: t := by
  induction a with
  | nil => exact e
  | cons c a ih => exact lf_c (k c List.mem_cons_self) (ih fun x hx => k x (List.mem_cons_of_mem _ hx))
theorem spl_lf : ∀ (l acc h : List Nat) (t : List (List Nat)), lf l = h :: t → TL.spl [10] 0 acc l = (acc ++ h) :: t
  | [], acc, h, t, e => by
    cases e
    rw [TL.spl_nil, List.append_nil]
  | c :: r, acc, h, t, e => by
    by_cases k : c = 10
    · subst k
      rw [lf_nl] at e
      cases e
      obtain ⟨h2, t2, e2⟩ := lf_ne r
      rw [TL.spl_hit (by rfl)]
      show acc :: TL.spl [10] 0 [] r = _
      rw [spl_lf r [] h2 t2 e2, e2, List.append_nil]; rfl
    · obtain ⟨h2, t2, e2⟩ := lf_ne r
      rw [lf_c k e2] at e
      cases e
      have hp : TL.pre [10] (c :: r) = false := by
        show (c == 10 && _) = false
        rw [show (c == 10) = false from by simpa using k]; rfl
      show (if TL.pre [10] (c :: r) = true then _ else TL.spl [10] 0 (acc ++ [c]) r) = _
      rw [hp, if_neg Bool.false_ne_true, spl_lf r (acc ++ [c]) h2 t e2, List.append_assoc]; rfl
theorem lns_lf (l : List Nat) : lns l = lf l := by
  obtain ⟨h, t, e⟩ := lf_ne l
  unfold lns
  rw [spl_lf l [] h t e, e]; rfl
end D

namespace D
open PySem PySem.Spec PyProof.Rows L2
/-- a word that is drawn -/
def WordOk (w : List Nat) : Prop := 1 ≤ w.length ∧ w.length ≤ 9 ∧ ∀ c ∈ w, 33 ≤ c ∧ c ≤ 126 ∧ c ≠ 37 ∧ c ≠ 39
/-- a piece at fault -/
def piece (i : Nat) (w : List Nat) : List Nat := match i with
  | 0 => w ++ [9]
  | 1 => [39] ++ w ++ [9, 39]
  | 2 => [9, 32]
  | 3 => [39] ++ w ++ [10]
  | 4 => [39] ++ w ++ [39, 39, 10]
  | 5 => [39] ++ w ++ [39] ++ w
  | _ => w ++ [39]

/-! ### texts that are put together of pieces -/
inductive Pc where
  | sp (c : Nat) | wd (w : List Nat) | st (q : List Nat) | bd (i : Nat) (w : List Nat)
def Pc.ren : Pc → List Nat
  | .sp c => [c]
  | .wd w => w
  | .st q => 39 :: (MK.dq q ++ [39])
  | .bd i w => piece i w
def Pc.isSp : Pc → Prop
  | .sp _ => True
  | _ => False
def StrOk (q : List Nat) : Prop := ∀ c ∈ q, 32 ≤ c ∧ c ≤ 126 ∧ c ≠ 37
def Pc.Ok : Pc → Prop
  | .sp c => c = 32 ∨ c = 10
  | .wd w => WordOk w
  | .st q => StrOk q
  | .bd i w => i < 7 ∧ WordOk w
def rend : List Pc → List Nat
  | [] => []
  | x :: P => x.ren ++ rend P
/-- behind what is no space a space stands, or nothing -/
def Adj : List Pc → Prop
  | [] => True
  | x :: P => (x.isSp ∨ ∀ y, P.head? = some y → y.isSp) ∧ Adj P
def nlp (i : Nat) : Nat := if i = 3 ∨ i = 4 then 1 else 0
def Pc.nl : Pc → Nat
  | .sp c => if c = 10 then 1 else 0
  | .bd i _ => nlp i
  | _ => 0
def exps : Nat → List Pc → List (Nat × Tk)
  | _, [] => []
  | r, .wd w :: P => (r, (false, w)) :: exps r P
  | r, .st q :: P => (r, (true, q)) :: exps r P
  | r, .sp c :: P => exps (r + (if c = 10 then 1 else 0)) P
  | r, .bd i _ :: P => exps (r + nlp i) P
def flts : Nat → List Pc → List (Nat × Nat)
  | _, [] => []
  | r, .wd _ :: P => flts r P
  | r, .st _ :: P => flts r P
  | r, .sp c :: P => flts (r + (if c = 10 then 1 else 0)) P
  | r, .bd i _ :: P => ((if i < 3 then 0 else 1), r) :: flts (r + nlp i) P
def nls : List Pc → Nat
  | [] => 0
  | x :: P => x.nl + nls P
theorem rend_app : ∀ (P Q : List Pc), rend (P ++ Q) = rend P ++ rend Q
  | [], _ => rfl
  | x :: P, Q => by show x.ren ++ rend (P ++ Q) = (x.ren ++ rend P) ++ rend Q; rw [rend_app, List.append_assoc]
theorem exps_app : ∀ (r : Nat) (P Q : List Pc), exps r (P ++ Q) = exps r P ++ exps (r + nls P) Q
  | _, [], _ => rfl
  | r, .wd w :: P, Q => by show _ :: exps r (P ++ Q) = _ :: exps r P ++ exps (r + (0 + nls P)) Q; rw [exps_app, Nat.zero_add]; rfl
  | r, .st q :: P, Q => by show _ :: exps r (P ++ Q) = _ :: exps r P ++ exps (r + (0 + nls P)) Q; rw [exps_app, Nat.zero_add]; rfl
  | r, .sp c :: P, Q => by show exps (r + _) (P ++ Q) = exps (r + _) P ++ exps (r + (_ + nls P)) Q; rw [exps_app, Nat.add_assoc]; rfl
  | r, .bd i _ :: P, Q => by show exps (r + nlp i) (P ++ Q) = exps (r + nlp i) P ++ exps (r + (nlp i + nls P)) Q; rw [exps_app, Nat.add_assoc]
theorem flts_app : ∀ (r : Nat) (P Q : List Pc), flts r (P ++ Q) = flts r P ++ flts (r + nls P) Q
  | _, [], _ => rfl
  | r, .wd w :: P, Q => by show flts r (P ++ Q) = flts r P ++ flts (r + (0 + nls P)) Q; rw [flts_app, Nat.zero_add]
  | r, .st q :: P, Q => by show flts r (P ++ Q) = flts r P ++ flts (r + (0 + nls P)) Q; rw [flts_app, Nat.zero_add]
  | r, .sp c :: P, Q => by show flts (r + _) (P ++ Q) = flts (r + _) P ++ flts (r + (_ + nls P)) Q; rw [flts_app, Nat.add_assoc]; rfl
  | r, .bd i _ :: P, Q => by show _ :: flts (r + nlp i) (P ++ Q) = _ :: flts (r + nlp i) P ++ flts (r + (nlp i + nls P)) Q; rw [flts_app, Nat.add_assoc]; rfl
theorem flts_ge : ∀ (r : Nat) (P : List Pc), ∀ f ∈ flts r P, r ≤ f.2
  | _, [], _, h => by cases h
  | r, .wd w :: P, f, h => flts_ge r P f h
  | r, .st q :: P, f, h => flts_ge r P f h
  | r, .sp c :: P, f, h => Nat.le_trans (Nat.le_add_right _ _) (flts_ge (r + _) P f h)
  | r, .bd i _ :: P, f, h => by
    rcases List.mem_cons.mp h with h | h
    · rw [h]; exact Nat.le_refl _
    · exact Nat.le_trans (Nat.le_add_right _ _) (flts_ge (r + _) P f h)
/-! ### which lines are printable -/
theorem prn_app (a b : List Nat) : MW.prn (a ++ b) = (MW.prn a && MW.prn b) := by unfold MW.prn; rw [List.all_append]
theorem prn_of {a : List Nat} (h : ∀ c ∈ a, 32 ≤ c ∧ c ≤ 126 ∧ c ≠ 37) : MW.prn a = true := by
  unfold MW.prn
  rw [List.all_eq_true]
  exact fun c hc => decide_eq_true (h c hc)
theorem dq_mem {q : List Nat} : ∀ c ∈ MK.dq q, c ∈ q := by
  induction q with
  | nil => intro c h; exact h
  | cons x q ih =>
    intro c h
    by_cases e : x = 39
    · subst e
      rw [MK.dq_q] at h
      rcases List.mem_cons.mp h with h | h
      · rw [h]; exact List.mem_cons_self
      · rcases List.mem_cons.mp h with h | h
        · rw [h]; exact List.mem_cons_self
        · exact List.mem_cons_of_mem _ (ih c h)
    · rw [MK.dq_c e] at h
      rcases List.mem_cons.mp h with h | h
      · rw [h]; exact List.mem_cons_self
      · exact List.mem_cons_of_mem _ (ih c h)
/-- what a piece does to the lines behind it: its own part of the first line, and whether a line ends with it -/
structure Shp (x : Pc) (a : List Nat) (n : Bool) : Prop where
  e : x.ren = a ++ (if n = true then [10] else [])
  m : ∀ c ∈ a, c ≠ 10
  k : x.nl = (if n = true then 1 else 0)
theorem WordOk.ne {w : List Nat} (h : WordOk w) : w ≠ [] := fun e => by have := h.1; rw [e] at this; exact absurd this (by decide)
theorem WordOk.c {w : List Nat} (h : WordOk w) : ∀ c ∈ w, c ≠ 32 ∧ c ≠ 39 ∧ c ≠ 10 ∧ (32 ≤ c ∧ c ≤ 126 ∧ c ≠ 37) := fun c hc => by
  obtain ⟨h1, h2, h3, h4⟩ := h.2.2 c hc
  exact ⟨by omega, h4, by omega, by omega, h2, h3⟩
theorem shp {x : Pc} (h : x.Ok) : ∃ a n, Shp x a n := by
  cases x with
  | sp c =>
    rcases h with rfl | rfl
    · exact ⟨[32], false, rfl, by decide, rfl⟩
    · exact ⟨[], true, rfl, by decide, rfl⟩
  | wd w => exact ⟨w, false, (List.append_nil _).symm, fun c hc => (WordOk.c h c hc).2.2.1, rfl⟩
  | st q =>
    refine ⟨39 :: (MK.dq q ++ [39]), false, (List.append_nil _).symm, fun c hc => ?_, rfl⟩
    rcases List.mem_cons.mp hc with e | hc
    · rw [e]; decide
    · rcases List.mem_append.mp hc with hc | hc
      · have := h c (dq_mem c hc); omega
      · rw [List.mem_singleton.mp hc]; decide
  | bd i w =>
    obtain ⟨hi, hw⟩ := h
    have hc := hw.c
    have hm : ∀ (pre post : List Nat), (∀ c ∈ pre, c ≠ 10) → (∀ c ∈ post, c ≠ 10) → ∀ c ∈ pre ++ w ++ post, c ≠ 10 := fun pre post h1 h2 c hx => by
      rcases List.mem_append.mp hx with hx | hx
      · rcases List.mem_append.mp hx with hx | hx
        · exact h1 c hx
        · exact (hc c hx).2.2.1
      · exact h2 c hx
    rcases (show i = 0 ∨ i = 1 ∨ i = 2 ∨ i = 3 ∨ i = 4 ∨ i = 5 ∨ i = 6 by omega) with rfl | rfl | rfl | rfl | rfl | rfl | rfl
    · exact ⟨[] ++ w ++ [9], false, (List.append_nil _).symm, hm [] [9] (by decide) (by decide), rfl⟩
    · exact ⟨[39] ++ w ++ [9, 39], false, (List.append_nil _).symm, hm [39] [9, 39] (by decide) (by decide), rfl⟩
    · exact ⟨[9, 32], false, rfl, by decide, rfl⟩
    · exact ⟨[39] ++ w ++ [], true, by rw [List.append_nil]; rfl, hm [39] [] (by decide) (by decide), rfl⟩
    · refine ⟨[39] ++ w ++ [39, 39], true, ?_, hm [39] [39, 39] (by decide) (by decide), rfl⟩
      show [39] ++ w ++ [39, 39, 10] = [39] ++ w ++ [39, 39] ++ [10]
      rw [List.append_assoc ([39] ++ w)]; rfl
    · refine ⟨[39] ++ w ++ ([39] ++ w), false, by rw [if_neg Bool.false_ne_true, List.append_nil]; show [39] ++ w ++ [39] ++ w = _; rw [List.append_assoc ([39] ++ w)], hm [39] _ (by decide) fun c hx => ?_, rfl⟩
      rcases List.mem_append.mp hx with hx | hx
      · rw [List.mem_singleton.mp hx]; decide
      · exact (hc c hx).2.2.1
    · exact ⟨[] ++ w ++ [39], false, (List.append_nil _).symm, hm [] [39] (by decide) (by decide), rfl⟩
theorem lf_pc {x : Pc} {a : List Nat} {n : Bool} (s : Shp x a n) {P : List Pc} {h : List Nat} {t : List (List Nat)} (e : lf (rend P) = h :: t) : lf (rend (x :: P)) = if n = true then a :: h :: t else (a ++ h) :: t := by
  show lf (x.ren ++ rend P) = _
  rw [s.e]
  cases n with
  | true =>
    rw [if_pos rfl, if_pos rfl, List.append_assoc, lf_app s.m (show lf ([10] ++ rend P) = [] :: lf (rend P) from lf_nl _), List.append_nil, e]
  | false =>
    rw [if_neg Bool.false_ne_true, if_neg Bool.false_ne_true, List.append_nil, lf_app s.m e]
def Pc.flt (r : Nat) : Pc → List (Nat × Nat)
  | .bd i _ => [((if i < 3 then 0 else 1), r)]
  | _ => []
theorem flts_cons (r : Nat) (x : Pc) (P : List Pc) : flts r (x :: P) = x.flt r ++ flts (r + x.nl) P := by
  cases x <;> rfl
theorem prA {x : Pc} {a : List Nat} {n : Bool} (s : Shp x a n) (ok : x.Ok) (r : Nat) : MW.prn a = false ↔ (0, r) ∈ x.flt r := by
  have hin : ∀ c, c ≠ 10 → (c ∈ a ↔ c ∈ x.ren) := fun c hc => by
    rw [s.e, List.mem_append]
    constructor
    · exact .inl
    · rintro (z | z)
      · exact z
      · split at z
        · exact absurd (List.mem_singleton.mp z) hc
        · cases z
  have good : (∀ c ∈ x.ren, c ≠ 10 → 32 ≤ c ∧ c ≤ 126 ∧ c ≠ 37) → MW.prn a = true := fun g => prn_of fun c hc => g c ((hin c (s.m c hc)).mp hc) (s.m c hc)
  have bad : 9 ∈ x.ren → MW.prn a = false := fun g => by
    have h9 := (hin 9 (by decide)).mpr g
    cases e : MW.prn a with
    | false => rfl
    | true =>
      unfold MW.prn at e
      rw [List.all_eq_true] at e
      have := of_decide_eq_true (e 9 h9)
      omega
  cases x with
  | sp c =>
    have g := good fun d hd h10 => by
      rw [show d = c from List.mem_singleton.mp hd] at h10 ⊢
      rcases ok with rfl | rfl
      · decide
      · exact absurd rfl h10
    rw [g]
    exact ⟨fun z => (nomatch z), fun z => nomatch z⟩
  | wd w =>
    have g := good fun d hd _ => (WordOk.c ok d hd).2.2.2
    rw [g]
    exact ⟨fun z => (nomatch z), fun z => nomatch z⟩
  | st q =>
    have g := good fun d hd _ => by
      rcases List.mem_cons.mp hd with e | hd
      · rw [e]; decide
      · rcases List.mem_append.mp hd with hd | hd
        · exact ok d (dq_mem d hd)
        · rw [List.mem_singleton.mp hd]; decide
    rw [g]
    exact ⟨fun z => (nomatch z), fun z => nomatch z⟩
  | bd i w =>
    obtain ⟨hi, hw⟩ := ok
    have hc := hw.c
    have two : ∀ (pre post : List Nat), (∀ c ∈ pre, c ≠ 10 → 32 ≤ c ∧ c ≤ 126 ∧ c ≠ 37) → (∀ c ∈ post, c ≠ 10 → 32 ≤ c ∧ c ≤ 126 ∧ c ≠ 37) → ∀ c ∈ pre ++ w ++ post, c ≠ 10 → 32 ≤ c ∧ c ≤ 126 ∧ c ≠ 37 := fun pre post h1 h2 c hx => by
      rcases List.mem_append.mp hx with hx | hx
      · rcases List.mem_append.mp hx with hx | hx
        · exact h1 c hx
        · exact fun _ => (hc c hx).2.2.2
      · exact h2 c hx
    have q39 : ∀ c ∈ [39], c ≠ 10 → 32 ≤ c ∧ c ≤ 126 ∧ c ≠ 37 := by decide
    rcases (show i = 0 ∨ i = 1 ∨ i = 2 ∨ i = 3 ∨ i = 4 ∨ i = 5 ∨ i = 6 by omega) with rfl | rfl | rfl | rfl | rfl | rfl | rfl
    · rw [bad (List.mem_append.mpr (.inr (List.mem_singleton.mpr rfl)))]; exact ⟨fun _ => List.mem_singleton.mpr rfl, fun _ => rfl⟩
    · rw [bad (List.mem_append.mpr (.inr List.mem_cons_self))]; exact ⟨fun _ => List.mem_singleton.mpr rfl, fun _ => rfl⟩
    · rw [bad List.mem_cons_self]; exact ⟨fun _ => List.mem_singleton.mpr rfl, fun _ => rfl⟩
    · rw [good (two [39] [10] q39 (by decide))]
      exact ⟨fun z => (nomatch z), fun z => nomatch (congrArg Prod.fst (List.mem_singleton.mp z))⟩
    · rw [good (two [39] [39, 39, 10] q39 (by decide))]
      exact ⟨fun z => (nomatch z), fun z => nomatch (congrArg Prod.fst (List.mem_singleton.mp z))⟩
    · rw [good (fun c hx h10 => by
        have hx : c ∈ [39] ++ w ++ [39] ++ w := hx
        rcases List.mem_append.mp hx with hx | hx
        · exact two [39] [39] q39 q39 c hx h10
        · exact (hc c hx).2.2.2)]
      exact ⟨fun z => (nomatch z), fun z => nomatch (congrArg Prod.fst (List.mem_singleton.mp z))⟩
    · rw [good (fun c hx h10 => by
        have hx : c ∈ w ++ [39] := hx
        exact two [] [39] (by decide) q39 c hx h10)]
      exact ⟨fun z => (nomatch z), fun z => nomatch (congrArg Prod.fst (List.mem_singleton.mp z))⟩
theorem flt_row {x : Pc} {r k i : Nat} (h : (k, i) ∈ x.flt r) : i = r := by
  cases x with
  | bd j w => exact congrArg Prod.snd (List.mem_singleton.mp h)
  | sp c => cases h
  | wd w => cases h
  | st q => cases h
/-- the lines that are not printable are those of the faults of kind 0 -/
theorem prn_lines : ∀ (P : List Pc), (∀ x ∈ P, x.Ok) → ∀ (r i : Nat) (l : List Nat), (lf (rend P))[i]? = some l → (MW.prn l = false ↔ (0, r + i) ∈ flts r P)
  | [], _, r, i, l, h => by
    cases i with
    | zero => cases h; exact ⟨fun z => (nomatch z), fun z => nomatch z⟩
    | succ i => cases h
  | x :: P, ok, r, i, l, hl => by
    obtain ⟨a, n, s⟩ := shp (ok x List.mem_cons_self)
    obtain ⟨h, t, e⟩ := lf_ne (rend P)
    have okx := ok x List.mem_cons_self
    have ih := prn_lines P fun y hy => ok y (List.mem_cons_of_mem _ hy)
    rw [lf_pc s e] at hl
    rw [flts_cons, s.k, List.mem_append]
    cases n with
    | true =>
      rw [if_pos rfl] at hl ⊢
      cases i with
      | zero =>
        cases hl
        rw [prA s okx r]
        exact ⟨.inl, fun z => z.elim id fun z => absurd (flts_ge _ P _ z) (by show ¬ r + 1 ≤ r + 0; omega)⟩
      | succ i =>
        have hl : (h :: t)[i]? = some l := by simpa using hl
        rw [← e] at hl
        rw [ih (r + 1) i l hl, show r + 1 + i = r + (i + 1) by omega]
        exact ⟨.inr, fun z => z.elim (fun z => absurd (flt_row z) (by omega)) id⟩
    | false =>
      rw [if_neg Bool.false_ne_true] at hl ⊢
      cases i with
      | zero =>
        cases hl
        have h0 := ih r 0 h (by rw [e]; rfl)
        rw [prn_app, Bool.and_eq_false_iff, prA s okx r, h0]; rfl
      | succ i =>
        have hl : t[i]? = some l := by simpa using hl
        rw [ih r (i + 1) l (by rw [e]; simpa using hl)]
        exact ⟨.inr, fun z => z.elim (fun z => absurd (flt_row z) (by omega)) id⟩
/-! ### the tokens of the lines, where all lines are printable -/
structure Outs (r : Nat) (P : List Pc) (os : List (Option (List Tk))) : Prop where
  l : os.length = (lf (rend P)).length
  g : ∀ (i : Nat) (x : List Nat) (o : Option (List Tk)), (lf (rend P))[i]? = some x → os[i]? = some o → RunS x o
  n : ∀ i : Nat, os[i]? = some none ↔ ∃ k, (k, r + i) ∈ flts r P
  t : ∀ ts : List (List Tk), os = ts.map some → rowsF r ts = exps r P
theorem head_sp {x : Pc} {P : List Pc} (hx : ¬ x.isSp) (adj : Adj (x :: P)) (ok : ∀ y ∈ P, y.Ok) {h : List Nat} {t : List (List Nat)} (e : lf (rend P) = h :: t) : h = [] ∨ ∃ t, h = 32 :: t := by
  cases P with
  | nil => cases e; exact .inl rfl
  | cons y P =>
    have hy := (adj.1.resolve_left hx) y rfl
    have oy := ok y List.mem_cons_self
    cases y with
    | sp c =>
      rcases oy with rfl | rfl
      · obtain ⟨h2, t2, e2⟩ := lf_ne (rend P)
        have : lf (rend (.sp 32 :: P)) = (32 :: h2) :: t2 := lf_c (by decide) e2
        rw [this] at e
        cases e
        exact .inr ⟨_, rfl⟩
      · have : lf (rend (.sp 10 :: P)) = [] :: lf (rend P) := lf_nl _
        rw [this] at e
        cases e
        exact .inl rfl
    | wd w => exact hy.elim
    | st q => exact hy.elim
    | bd i w => exact hy.elim
/-- a token before the rest of a line -/
theorem Outs.tok {r : Nat} {x : Pc} {P : List Pc} {o0 : Option (List Tk)} {os : List (Option (List Tk))} {h a : List Nat} {t : List (List Nat)} {k : Tk} (I : Outs r P (o0 :: os)) (e : lf (rend P) = h :: t) (e2 : lf (rend (x :: P)) = (a ++ h) :: t)
    (hr : RunS h o0 → RunS (a ++ h) (o0.map (k :: ·))) (hf : flts r (x :: P) = flts r P) (he : exps r (x :: P) = (r, k) :: exps r P) : Outs r (x :: P) (o0.map (k :: ·) :: os) := by
  refine ⟨by rw [e2, List.length_cons, List.length_cons]; have := I.l; rw [e, List.length_cons, List.length_cons] at this; exact this, fun i y o hy ho => ?_, fun i => ?_, fun ts hts => ?_⟩
  · rw [e2] at hy
    cases i with
    | zero => cases hy; cases ho; exact hr (I.g 0 h o0 (by rw [e]; rfl) rfl)
    | succ i => exact I.g (i + 1) y o (by rw [e]; simpa using hy) (by simpa using ho)
  · rw [hf, ← I.n i]
    cases i with
    | zero => cases o0 <;> simp
    | succ i => simp
  · cases ts with
    | nil => cases hts
    | cons t0 ts =>
      injection hts with h1 h2
      cases o0 with
      | none => cases h1
      | some t0' =>
        have h1 := Option.some.inj h1
        have := I.t (t0' :: ts) (by rw [h2]; rfl)
        rw [he, ← this, ← h1]; rfl
theorem Outs.bad {r i : Nat} {w : List Nat} {P : List Pc} {o0 : Option (List Tk)} {os : List (Option (List Tk))} {h a : List Nat} {t : List (List Nat)} (I : Outs r P (o0 :: os)) (e : lf (rend P) = h :: t) (e2 : lf (rend (.bd i w :: P)) = (a ++ h) :: t) (hi : nlp i = 0)
    (hr : RunS (a ++ h) none) : Outs r (.bd i w :: P) (none :: os) := by
  have hf : flts r (.bd i w :: P) = ((if i < 3 then 0 else 1), r) :: flts r P := by show _ :: flts (r + nlp i) P = _; rw [hi]; rfl
  refine ⟨by rw [e2, List.length_cons, List.length_cons]; have := I.l; rw [e, List.length_cons, List.length_cons] at this; exact this, fun j y o hy ho => ?_, fun j => ?_, fun ts hts => ?_⟩
  · rw [e2] at hy
    cases j with
    | zero => cases hy; cases ho; exact hr
    | succ j => exact I.g (j + 1) y o (by rw [e]; simpa using hy) (by simpa using ho)
  · rw [hf]
    cases j with
    | zero => exact ⟨fun _ => ⟨_, List.mem_cons_self⟩, fun _ => rfl⟩
    | succ j =>
      have := I.n (j + 1)
      rw [List.getElem?_cons_succ] at this ⊢
      rw [this]
      constructor
      · rintro ⟨k, hk⟩; exact ⟨k, List.mem_cons_of_mem _ hk⟩
      · rintro ⟨k, hk⟩
        rcases List.mem_cons.mp hk with z | z
        · have := congrArg Prod.snd z
          have : r + (j + 1) = r := this
          omega
        · exact ⟨k, z⟩
  · cases ts with
    | nil => cases hts
    | cons t0 ts => injection hts with h1 h2; cases h1
theorem Outs.line {r : Nat} {x : Pc} {P : List Pc} {o : Option (List Tk)} {os : List (Option (List Tk))} {a : List Nat} (I : Outs (r + 1) P os) (e2 : lf (rend (x :: P)) = a :: lf (rend P)) (hr : RunS a o)
    (hx : o = some [] ∧ flts r (x :: P) = flts (r + 1) P ∧ exps r (x :: P) = exps (r + 1) P ∨ o = none ∧ ∃ k, flts r (x :: P) = (k, r) :: flts (r + 1) P) : Outs r (x :: P) (o :: os) := by
  have up : ∀ i, (∃ k, (k, r + (i + 1)) ∈ flts (r + 1) P) ↔ (os[i]? = some none) := fun i => by
    rw [I.n i, show r + 1 + i = r + (i + 1) by omega]
  refine ⟨by rw [e2, List.length_cons, List.length_cons, I.l], fun i y o' hy ho => ?_, fun i => ?_, fun ts hts => ?_⟩
  · rw [e2] at hy
    cases i with
    | zero => cases hy; cases ho; exact hr
    | succ i => exact I.g i y o' (by simpa using hy) (by simpa using ho)
  · cases i with
    | zero =>
      rcases hx with ⟨rfl, hf, _⟩ | ⟨rfl, k, hf⟩
      · rw [hf]
        refine ⟨fun z => (by cases z), fun ⟨k, z⟩ => ?_⟩
        have := flts_ge (r + 1) P _ z
        exact absurd this (by show ¬ r + 1 ≤ r + 0; omega)
      · rw [hf]
        exact ⟨fun _ => ⟨k, List.mem_cons_self⟩, fun _ => rfl⟩
    | succ i =>
      rw [List.getElem?_cons_succ, ← up i]
      rcases hx with ⟨rfl, hf, _⟩ | ⟨rfl, k, hf⟩
      · rw [hf]
      · rw [hf]
        constructor
        · rintro ⟨k', hk⟩; exact ⟨k', List.mem_cons_of_mem _ hk⟩
        · rintro ⟨k', hk⟩
          rcases List.mem_cons.mp hk with z | z
          · have : r + (i + 1) = r := congrArg Prod.snd z
            omega
          · exact ⟨k', z⟩
  · cases ts with
    | nil => cases hts
    | cons t0 ts =>
      injection hts with h1 h2
      rcases hx with ⟨rfl, _, he⟩ | ⟨rfl, _⟩
      · have h1 := Option.some.inj h1
        rw [he, ← I.t ts h2, ← h1]; rfl
      · cases h1
theorem outs : ∀ (P : List Pc), (∀ x ∈ P, x.Ok) → Adj P → ∀ r : Nat, (∀ f ∈ flts r P, f.1 ≠ 0) → ∃ os, Outs r P os
  | [], _, _, r, _ => by
    refine ⟨[some []], rfl, fun i x o hx ho => ?_, fun i => ?_, fun ts h => ?_⟩
    · cases i with
      | zero => cases hx; cases ho; exact .nil
      | succ i => cases hx
    · cases i with
      | zero => exact ⟨fun z => (by cases z), fun ⟨k, z⟩ => nomatch z⟩
      | succ i => exact ⟨fun z => (by cases z), fun ⟨k, z⟩ => nomatch z⟩
    · cases ts with
      | nil => cases h
      | cons t ts =>
        injection h with h1 h2
        cases ts with
        | nil => cases h1; rfl
        | cons _ _ => cases h2
  | x :: P, ok, adj, r, nf => by
    obtain ⟨h, t, e⟩ := lf_ne (rend P)
    have ok2 : ∀ y ∈ P, y.Ok := fun y hy => ok y (List.mem_cons_of_mem _ hy)
    have okx := ok x List.mem_cons_self
    have nf2 : ∀ f ∈ flts (r + x.nl) P, f.1 ≠ 0 := fun f hf => nf f (by rw [flts_cons]; exact List.mem_append.mpr (.inr hf))
    obtain ⟨os, I⟩ := outs P ok2 adj.2 (r + x.nl) nf2
    obtain ⟨o0, os', rfl⟩ : ∃ o0 os', os = o0 :: os' := by
      cases os with
      | nil => have := I.l; rw [e] at this; cases this
      | cons o0 os' => exact ⟨_, _, rfl⟩
    cases x with
    | sp c =>
      rcases okx with rfl | rfl
      · have e2 : lf (rend (.sp 32 :: P)) = ([32] ++ h) :: t := lf_c (by decide) e
        have hf : flts r (.sp 32 :: P) = flts r P := rfl
        have I : Outs r P (o0 :: os') := I
        refine ⟨o0 :: os', ⟨by rw [e2, List.length_cons, List.length_cons]; have := I.l; rw [e, List.length_cons, List.length_cons] at this; exact this, fun i y o hy ho => ?_, fun i => by rw [hf]; exact I.n i, fun ts hts => I.t ts hts⟩⟩
        rw [e2] at hy
        cases i with
        | zero => cases hy; cases ho; exact (I.g 0 h o0 (by rw [e]; rfl) rfl).sp
        | succ i => exact I.g (i + 1) y o (by rw [e]; simpa using hy) ho
      · exact ⟨_, I.line (x := .sp 10) (lf_nl _) .nil (.inl ⟨rfl, rfl, rfl⟩)⟩
    | wd w =>
      have hs := head_sp (x := .wd w) (fun z => z) adj ok2 e
      have hw := WordOk.c okx
      exact ⟨_, Outs.tok (a := w) I e (lf_app (fun c hc => (hw c hc).2.2.1) e) (fun z => z.word (WordOk.ne okx) (fun c hc => ⟨(hw c hc).1, (hw c hc).2.1⟩) hs) rfl rfl⟩
    | st q =>
      have hs := head_sp (x := .st q) (fun z => z) adj ok2 e
      have hn : ∀ c ∈ 39 :: (MK.dq q ++ [39]), c ≠ 10 := fun c hc => by
        rcases List.mem_cons.mp hc with e | hc
        · rw [e]; decide
        · rcases List.mem_append.mp hc with hc | hc
          · have := okx c (dq_mem c hc); omega
          · rw [List.mem_singleton.mp hc]; decide
      refine ⟨_, Outs.tok (a := 39 :: (MK.dq q ++ [39])) I e (lf_app hn e) (fun z => ?_) rfl rfl⟩
      have := RunS.str (q := q) hs z
      rw [show 39 :: (MK.dq q ++ [39]) ++ h = 39 :: (MK.dq q ++ 39 :: h) by simp]
      exact this
    | bd i w =>
      obtain ⟨hi, hw⟩ := okx
      have hc := hw.c
      have hq : ∀ c ∈ w, c ≠ 39 := fun c h => (hc c h).2.1
      have h3 : ¬ i < 3 := fun z => nf (0, r) (by show (0, r) ∈ ((if i < 3 then 0 else 1), r) :: _; rw [if_pos z]; exact List.mem_cons_self) rfl
      rcases (show i = 3 ∨ i = 4 ∨ i = 5 ∨ i = 6 by omega) with rfl | rfl | rfl | rfl
      · have e2 : lf (rend (.bd 3 w :: P)) = ([39] ++ w) :: lf (rend P) := by
          show lf ([39] ++ w ++ [10] ++ rend P) = _
          rw [show [39] ++ w ++ [10] ++ rend P = ([39] ++ w) ++ (10 :: rend P) by simp, lf_app (a := [39] ++ w) (fun c hx => by
            rcases List.mem_append.mp hx with hx | hx
            · rw [List.mem_singleton.mp hx]; decide
            · exact (hc c hx).2.2.1) (lf_nl (rend P)), List.append_nil]
        exact ⟨_, I.line (x := .bd 3 w) e2 (RunS.bad1 (sEnd_no hq)) (.inr ⟨rfl, 1, rfl⟩)⟩
      · have e2 : lf (rend (.bd 4 w :: P)) = (39 :: (w ++ [39, 39])) :: lf (rend P) := by
          show lf ([39] ++ w ++ [39, 39, 10] ++ rend P) = _
          rw [show [39] ++ w ++ [39, 39, 10] ++ rend P = (39 :: (w ++ [39, 39])) ++ (10 :: rend P) by simp, lf_app (fun c hx => by
            rcases List.mem_cons.mp hx with hx | hx
            · rw [hx]; decide
            · rcases List.mem_append.mp hx with hx | hx
              · exact (hc c hx).2.2.1
              · exact (show ∀ c ∈ [39, 39], c ≠ 10 by decide) c hx) (lf_nl (rend P)), List.append_nil]
        exact ⟨_, I.line (x := .bd 4 w) e2 (RunS.bad1 fun n => by rw [sEnd_skip hq]; rfl) (.inr ⟨rfl, 1, rfl⟩)⟩
      · obtain ⟨c0, w', ew⟩ := List.exists_cons_of_ne_nil hw.ne
        have hc0 := hc c0 (by rw [ew]; exact List.mem_cons_self)
        refine ⟨_, Outs.bad (i := 5) (a := [39] ++ w ++ [39] ++ w) I e (lf_app (fun c hx => ?_) e) rfl ?_⟩
        · rcases List.mem_append.mp hx with hx | hx
          · rcases List.mem_append.mp hx with hx | hx
            · rcases List.mem_append.mp hx with hx | hx
              · rw [List.mem_singleton.mp hx]; decide
              · exact (hc c hx).2.2.1
            · rw [List.mem_singleton.mp hx]; decide
          · exact (hc c hx).2.2.1
        · have := RunS.bad2 (w := w) (s := w' ++ h) hq hc0.2.1 hc0.1
          rw [show [39] ++ w ++ [39] ++ w ++ h = 39 :: (w ++ 39 :: c0 :: (w' ++ h)) by conv => lhs; rw [show [39] ++ w ++ [39] ++ w ++ h = 39 :: (w ++ 39 :: (w ++ h)) by simp, show w ++ h = c0 :: (w' ++ h) by rw [ew]; rfl]]
          exact this
      · refine ⟨_, Outs.bad (i := 6) (a := w ++ [39]) I e (lf_app (fun c hx => ?_) e) rfl ?_⟩
        · rcases List.mem_append.mp hx with hx | hx
          · exact (hc c hx).2.2.1
          · rw [List.mem_singleton.mp hx]; decide
        · have := RunS.bad3 (s := h) hw.ne fun c hx => ⟨(hc c hx).1, (hc c hx).2.1⟩
          rw [show w ++ [39] ++ h = w ++ 39 :: h by simp]
          exact this
/-! ### putting together -/
def EndSp (P : List Pc) : Prop := ∀ x, P.getLast? = some x → x.isSp
def spc (l : List Nat) : List Pc := l.map Pc.sp
theorem rend_spc : ∀ l : List Nat, rend (spc l) = l
  | [] => rfl
  | c :: l => by show [c] ++ rend (spc l) = _; rw [rend_spc]; rfl
theorem adj_app : ∀ (P Q : List Pc), Adj P → Adj Q → (EndSp P ∨ ∀ y, Q.head? = some y → y.isSp) → Adj (P ++ Q)
  | [], _, _, h, _ => h
  | x :: P, Q, h, hq, he => by
    refine ⟨?_, adj_app P Q h.2 hq ?_⟩
    · cases P with
      | nil =>
        rcases he with he | he
        · exact .inl (he x rfl)
        · exact .inr fun y hy => he y hy
      | cons z P =>
        rcases h.1 with a | a
        · exact .inl a
        · exact .inr fun y hy => a y hy
    · cases P with
      | nil => exact .inl fun y hy => by cases hy
      | cons z P => exact he.imp (fun a y hy => a y (by rw [List.getLast?_cons_cons]; exact hy)) id
theorem adj_spc : ∀ l : List Nat, Adj (spc l)
  | [] => True.intro
  | c :: l => ⟨.inl True.intro, adj_spc l⟩
theorem head_spc {l : List Nat} : ∀ y, (spc l).head? = some y → y.isSp := by
  cases l with
  | nil => intro y h; cases h
  | cons c l => intro y h; cases h; exact True.intro
theorem end_spc {P : List Pc} {l : List Nat} (h : l ≠ []) : EndSp (P ++ spc l) := by
  intro x hx
  obtain ⟨l', c, rfl⟩ := List.eq_nil_or_concat l |>.resolve_left h
  have : spc (l'.concat c) = spc l' ++ [Pc.sp c] := by unfold spc; rw [List.concat_eq_append, List.map_append]; rfl
  rw [this, ← List.append_assoc, List.getLast?_concat] at hx
  cases hx
  exact True.intro
theorem ok_spc {l : List Nat} (h : ∀ c ∈ l, c = 32 ∨ c = 10) : ∀ x ∈ spc l, x.Ok := fun x hx => by
  obtain ⟨c, hc, rfl⟩ := List.mem_map.mp hx
  exact h c hc
theorem exps_spc : ∀ (r : Nat) (l : List Nat), exps r (spc l) = []
  | _, [] => rfl
  | r, c :: l => exps_spc _ l
theorem flts_spc : ∀ (r : Nat) (l : List Nat), flts r (spc l) = []
  | _, [] => rfl
  | r, c :: l => flts_spc _ l
theorem exps_snocS (r : Nat) (P : List Pc) (l : List Nat) : exps r (P ++ spc l) = exps r P := by rw [exps_app, exps_spc, List.append_nil]
theorem flts_snocS (r : Nat) (P : List Pc) (l : List Nat) : flts r (P ++ spc l) = flts r P := by rw [flts_app, flts_spc, List.append_nil]
theorem nls_cnt : ∀ (P : List Pc), (∀ x ∈ P, x.Ok) → ((rend P).filter (· == 10)).length = nls P
  | [], _ => rfl
  | x :: P, h => by
    obtain ⟨a, n, s⟩ := shp (h x List.mem_cons_self)
    show ((x.ren ++ rend P).filter (· == 10)).length = x.nl + nls P
    rw [List.filter_append, List.length_append, nls_cnt P fun y hy => h y (List.mem_cons_of_mem _ hy), s.e, s.k, List.filter_append, List.length_append]
    have h0 : a.filter (· == 10) = [] := List.filter_eq_nil_iff.mpr fun c hc => by simpa using s.m c hc
    rw [h0]
    cases n <;> rfl
theorem ren_len {x : Pc} (h : x.Ok) (hs : ∀ q, x = .st q → q.length ≤ 60) : x.ren.length ≤ 130 := by
  cases x with
  | sp c => exact (by decide : 1 ≤ 130)
  | wd w => have := h.2.1; show w.length ≤ 130; omega
  | st q =>
    have := MK.dq_len q
    have := hs q rfl
    show (39 :: (MK.dq q ++ [39])).length ≤ 130
    rw [List.length_cons, List.length_append, List.length_singleton]; omega
  | bd i w =>
    obtain ⟨hi, hw⟩ := h
    have := hw.2.1
    rcases (show i = 0 ∨ i = 1 ∨ i = 2 ∨ i = 3 ∨ i = 4 ∨ i = 5 ∨ i = 6 by omega) with rfl | rfl | rfl | rfl | rfl | rfl | rfl <;> (simp only [Pc.ren, piece, List.length_append, List.length_cons, List.length_nil]; omega)
theorem ren_pos {x : Pc} (h : x.Ok) : 1 ≤ x.ren.length := by
  cases x with
  | sp c => exact Nat.le_refl _
  | wd w => exact h.1
  | st q => show 1 ≤ (39 :: _).length; rw [List.length_cons]; omega
  | bd i w =>
    obtain ⟨hi, hw⟩ := h
    have := hw.1
    rcases (show i = 0 ∨ i = 1 ∨ i = 2 ∨ i = 3 ∨ i = 4 ∨ i = 5 ∨ i = 6 by omega) with rfl | rfl | rfl | rfl | rfl | rfl | rfl <;> (simp only [Pc.ren, piece, List.length_append, List.length_cons, List.length_nil]; omega)
theorem ex_len : ∀ (r : Nat) (P : List Pc), (∀ x ∈ P, x.Ok) → (exps r P).length ≤ (rend P).length ∧ (flts r P).length ≤ (rend P).length
  | _, [], _ => ⟨Nat.le_refl _, Nat.le_refl _⟩
  | r, x :: P, h => by
    have hp := ren_pos (h x List.mem_cons_self)
    have ok := fun y hy => h y (List.mem_cons_of_mem _ hy)
    show _ ≤ (x.ren ++ rend P).length ∧ _ ≤ (x.ren ++ rend P).length
    rw [List.length_append]
    cases x with
    | sp c => have := ex_len (r + (if c = 10 then 1 else 0)) P ok; exact ⟨by show (exps _ P).length ≤ _; omega, by show (flts _ P).length ≤ _; omega⟩
    | wd w => have := ex_len r P ok; exact ⟨by show (exps r P).length + 1 ≤ _; omega, by show (flts r P).length ≤ _; omega⟩
    | st q => have := ex_len r P ok; exact ⟨by show (exps r P).length + 1 ≤ _; omega, by show (flts r P).length ≤ _; omega⟩
    | bd i w => have := ex_len (r + nlp i) P ok; exact ⟨by show (exps _ P).length ≤ _; omega, by show (flts _ P).length + 1 ≤ _; omega⟩
theorem lf_len : ∀ (P : List Pc), (∀ x ∈ P, x.Ok) → (lf (rend P)).length = nls P + 1
  | [], _ => rfl
  | x :: P, h => by
    obtain ⟨a, n, s⟩ := shp (h x List.mem_cons_self)
    obtain ⟨h1, t, e⟩ := lf_ne (rend P)
    have ih := lf_len P fun y hy => h y (List.mem_cons_of_mem _ hy)
    rw [e, List.length_cons] at ih
    rw [lf_pc s e]
    show _ = x.nl + nls P + 1
    rw [s.k]
    cases n with
    | true => rw [if_pos rfl, if_pos rfl, List.length_cons, List.length_cons]; omega
    | false => rw [if_neg Bool.false_ne_true, if_neg Bool.false_ne_true, List.length_cons]; omega
theorem flts_le : ∀ (r : Nat) (P : List Pc), ∀ f ∈ flts r P, f.2 ≤ r + nls P ∧ f.1 ≤ 1
  | _, [], _, h => by cases h
  | r, x :: P, f, h => by
    rw [flts_cons] at h
    show f.2 ≤ r + (x.nl + nls P) ∧ _
    rcases List.mem_append.mp h with h | h
    · have h2 : f.2 = r := flt_row (k := f.1) (i := f.2) h
      refine ⟨by omega, ?_⟩
      cases x with
      | bd i w =>
        have := congrArg Prod.fst (List.mem_singleton.mp h)
        rw [this]
        show (if i < 3 then 0 else 1) ≤ 1
        split <;> omega
      | sp c => cases h
      | wd w => cases h
      | st q => cases h
    · have := flts_le (r + x.nl) P f h
      exact ⟨by omega, this.2⟩
end D

namespace WP
open PySem PySem.Spec PyProof.Rows L2
/-! ### lists of counts and of truths -/
abbrev iL (l : List Nat) : List V := l.map fun (w : Nat) => V.int (w : Int)
abbrev bL (l : List Bool) : List V := l.map V.bl
section
variable {K : PySem.W.Frag} {H : Hp} {p : Addr} {Q : VK} {l : List Nat} {bs : List Bool} {j : Nat}
theorem at_iL (h : j < l.length) : atI (iL l) (j : Int) = some (.int ((l.getD j 0 : Nat) : Int)) := atI_nat (by rw [List.getElem?_map, List.getElem?_eq_getElem h, List.getD_eq_getElem?_getD, List.getElem?_eq_getElem h]; rfl)
theorem at_bL (h : j < bs.length) : atI (bL bs) (j : Int) = some (.bl (bs.getD j false)) := atI_nat (by rw [List.getElem?_map, List.getElem?_eq_getElem h, List.getD_eq_getElem?_getD, List.getElem?_eq_getElem h]; rfl)
theorem at_rev {v : Nat} {q : List Nat} : atI (iL (v :: q).reverse) (-1) = some (.int (v : Int)) := by
  rw [List.reverse_cons, show iL (q.reverse ++ [v]) = iL q.reverse ++ [.int (v : Int)] from List.map_append]
  exact atI_last _ _
theorem set_iL {v : Nat} : (iL l).set j (.int (v : Int)) = iL (l.set j v) := by unfold iL; rw [List.map_set]
theorem set_bL {b : Bool} : (bL bs).set j (.bl b) = bL (bs.set j b) := by unfold bL; rw [List.map_set]
theorem app_iL {v : Nat} : iL l ++ [.int (v : Int)] = iL (l ++ [v]) := by unfold iL; rw [List.map_append]; rfl
theorem app_rev {v : Nat} {q : List Nat} : iL q.reverse ++ [.int (v : Int)] = iL (v :: q).reverse := by rw [List.reverse_cons, app_iL]
theorem setN {xs : List V} {v : V} {R : Hp → Prop} (hp : H p = some (.lst xs)) (hj : j < xs.length) (q : R (upd H p (.lst (xs.set j v)))) : rSetL (.ref p) (.int (j : Int)) v H R := setL hp (Evl.ixN_nat hj) q
theorem popRev {v : Nat} {r : List Nat} (hp : H p = some (.lst (iL (v :: r).reverse))) (q : Q (.int (v : Int)) (upd H p (.lst (iL r.reverse)))) : rPop (.ref p) [] H Q := by
  refine ⟨p, _, .int (v : Int), rfl, rfl, hp, ?_, ?_⟩
  · unfold iL
    rw [List.reverse_cons, List.map_append, List.length_append]
    show (_ ++ [V.int (v : Int)])[_ + 1 - 1]? = _
    rw [Nat.add_sub_cancel, List.getElem?_append_right (Nat.le_refl _), Nat.sub_self]; rfl
  · unfold iL at q ⊢
    rw [List.reverse_cons, List.map_append]
    show Q _ (upd H p (.lst ((_ ++ [V.int (v : Int)]).dropLast)))
    rw [List.dropLast_concat]; exact q
theorem tr_rev {v : Nat} {q : List Nat} : (!(iL (v :: q).reverse).isEmpty) = true := by
  unfold iL
  rw [List.reverse_cons, List.map_append]
  cases List.map (fun (w : Nat) => V.int (w : Int)) q.reverse <;> rfl
theorem trL {xs : List V} (h : SqL K H p xs) : TruV K (.ref p) H (!xs.isEmpty) := .inl ⟨xs, h, rfl⟩
end
section
variable {K : PySem.W.Frag} {H : Hp} {p : Addr} {Q : VK} {l : List Nat} {v : Nat}
theorem inV_N : ∀ {l : List Nat}, inV (.int (v : Int)) (iL l) = decide (v ∈ l)
  | [] => rfl
  | a :: l => by
    show (eqV (.int (a : Int)) (.int (v : Int)) || inV (.int (v : Int)) (iL l)) = _
    rw [inV_N]
    show (((a : Int) == (v : Int)) || _) = _
    by_cases h : a = v
    · subst h; simp
    · rw [show ((a : Int) == (v : Int)) = false from by rw [beq_eq_false_iff_ne]; omega, Bool.false_or]
      congr 1
      exact propext ⟨fun z => List.mem_cons_of_mem _ z, fun z => by
        rcases List.mem_cons.mp z with z | z
        · exact absurd z.symm h
        · exact z⟩
theorem flat_N : ∀ (l : List Nat), (iL l).all flatV = true
  | [] => rfl
  | a :: l => flat_N l
theorem inNL (h : SqL K H p (iL l)) (q : Q (.bl (decide (v ∈ l))) H) : rIn K false (.int (v : Int)) (.ref p) H Q := ⟨p, _, rfl, .inl h, rfl, flat_N l, by rw [inV_N]; exact q⟩
theorem inNT (h : SqT K H p (iL l)) (q : Q (.bl (decide (v ∈ l))) H) : rIn K false (.int (v : Int)) (.ref p) H Q := ⟨p, _, rfl, .inr h, rfl, flat_N l, by rw [inV_N]; exact q⟩
theorem notInNL (h : SqL K H p (iL l)) (q : Q (.bl (!decide (v ∈ l))) H) : rIn K true (.int (v : Int)) (.ref p) H Q := ⟨p, _, rfl, .inl h, rfl, flat_N l, by rw [inV_N]; exact q⟩
theorem notInNT (h : SqT K H p (iL l)) (q : Q (.bl (!decide (v ∈ l))) H) : rIn K true (.int (v : Int)) (.ref p) H Q := ⟨p, _, rfl, .inr h, rfl, flat_N l, by rw [inV_N]; exact q⟩
/-- sorted(a list of counts) -/
theorem sortedN (h : SqL K H p (iL l)) (hz : l.length < 64) (q : ∀ (l' : List Nat) (a : Addr), l'.Perm l → H a = none → Q (.ref a) (upd H a (.lst (iL l')))) : rSorted K [.ref p] H Q := by
  refine ⟨p, l.map fun (w : Nat) => (w : Int), rfl, by rw [List.map_map]; exact h, by rw [List.length_map]; exact hz, fun ns' a hp _ ha => ?_⟩
  have e2 : ns'.map V.int = iL (ns'.map Int.toNat) := by
    unfold iL
    rw [List.map_map]
    refine List.map_congr_left fun x hx => ?_
    obtain ⟨w, _, rfl⟩ := List.mem_map.mp ((hp.mem_iff).mp hx)
    rfl
  rw [e2]
  refine q _ a ?_ ha
  have := hp.map Int.toNat
  rw [List.map_map] at this
  rw [show l.map (Int.toNat ∘ fun (w : Nat) => (w : Int)) = l from by simp [Function.comp_def]] at this
  exact this
end
section
variable {σ : L2.St} {H : Hp} {D : Ends} {Q : VK} {td ty tv : TE} {d : Addr} {kvs : List (Key × V)} {i : Int} {v : V}
theorem dnewK (q : ∀ p, H p = none → Q (.ref p) (upd H p (.dK []))) : tDNewK σ H Q := q
theorem din (h : ty σ H fun y H1 => td σ H1 fun x H2 => ∃ a o, x = .ref a ∧ DGet H2 a y o ∧ Q (.bl o.isSome) H2) : tDIn ty td σ H Q := h
theorem dnotin (h : ty σ H fun y H1 => td σ H1 fun x H2 => ∃ a o, x = .ref a ∧ DGet H2 a y o ∧ Q (.bl (!o.isSome)) H2) : tDNotIn ty td σ H Q := h
theorem dput (h : tv σ H fun v H1 => td σ H1 fun x H2 => ty σ H2 fun y H3 => ∃ a H4, x = .ref a ∧ DPut H3 a y v H4 ∧ D.nx σ H4) : sDPut td ty tv D σ H := h
theorem inK (hd : H d = some (.dK kvs)) (q : Q (.bl (valV kvs (Sum.inl i)).isSome) H) : ∃ a o, V.ref d = .ref a ∧ DGet H a (.int i) o ∧ Q (.bl o.isSome) H := ⟨d, _, rfl, DGet.k (k := Sum.inl i) hd, q⟩
theorem notInK (hd : H d = some (.dK kvs)) (q : Q (.bl (!(valV kvs (Sum.inl i)).isSome)) H) : ∃ a o, V.ref d = .ref a ∧ DGet H a (.int i) o ∧ Q (.bl (!o.isSome)) H := ⟨d, _, rfl, DGet.k (k := Sum.inl i) hd, q⟩
theorem getK (hd : H d = some (.dK kvs)) (e : valV kvs (Sum.inl i) = some v) (q : Q v H) : ∃ a v, V.ref d = .ref a ∧ DGet H a (.int i) (some v) ∧ Q v H := ⟨d, v, rfl, e ▸ DGet.k (k := Sum.inl i) hd, q⟩
theorem gotK (hd : H d = some (.dK kvs)) (e : valV kvs (Sum.inl i) = some v) : DGet H d (.int i) (some v) := e ▸ DGet.k (k := Sum.inl i) hd
theorem putKI {R : Hp → Prop} (hd : H d = some (.dK kvs)) (hl : kvs.length < sizeLine) (q : R (upd H d (.dK (putK kvs (Sum.inl i) v)))) : ∃ a H4, V.ref d = .ref a ∧ DPut H a (.int i) v H4 ∧ R H4 := ⟨d, _, rfl, DPut.k (k := Sum.inl i) hd hl, q⟩
end
theorem ix_tupK {X : Cx} {K : PySem.W.Frag} (h : X.K = K) : IxR X (rIxT K) := by subst h; exact ix_tup
theorem ix_listK {X : Cx} {K : PySem.W.Frag} (h : X.K = K) : IxR X (rIxL K) := by subst h; exact ix_list
theorem tupRev {K : PySem.W.Frag} {te : TE} {σ : L2.St} {H : Hp} {Q : VK} (h : te σ H fun v H1 => ∃ (a : Addr) (xs : List V), v = .ref a ∧ SqL K H1 a xs ∧ ∀ q, H1 q = none → Q (.ref q) (upd H1 q (.tup xs.reverse))) : RT.tTupRev K te σ H Q := h
theorem rev {K : PySem.W.Frag} {ta : TA} {σ : L2.St} {H : Hp} {R : It → Hp → Prop} (h : ta σ H fun vs H1 => ∃ (a : Addr) (xs : List V), vs = [.ref a] ∧ SqL K H1 a xs ∧ R (Itv K a xs.length) H1) : iRev K ta σ H R := h
end WP

namespace WP
open PySem PySem.Spec PyProof.Rows PyProof.Rows.G L2
/-! ### sorted(a list of tuples of two ints and a text) -/
def rSortF (K : PySem.W.Frag) : List V → Hp → VK → Prop := fun vs H Q => ∃ (a : Addr) (xs : List V) (g : V → Int × Int × Str), vs = [.ref a] ∧ SqL K H a xs ∧ (∀ x ∈ xs, ∃ t, x = .ref t ∧ H t = some (.tup [.int (g x).1, .int (g x).2.1, .str (g x).2.2])) ∧
  ∀ (ys : List V) (p : Addr), ys.Perm xs → (∀ y0, ys[0]? = some y0 → ∀ x ∈ xs, (g y0).1 < (g x).1 ∨ ((g y0).1 = (g x).1 ∧ (g y0).2.1 ≤ (g x).2.1)) → H p = none → Q (.ref p) (upd H p (.lst ys))
abbrev sh3 : Nat → Bool := fun i => i == 2
theorem tups_ex {h : Heap} : ∀ (vs : List Value), (∀ v ∈ vs, ∃ f, TupOf h sh3 v f) → ∃ fs, TupsOf h sh3 vs fs
  | [], _ => ⟨[], .nil⟩
  | v :: vs, hv => by
    obtain ⟨f, hf⟩ := hv v List.mem_cons_self
    obtain ⟨fs, hfs⟩ := tups_ex vs fun u hu => hv u (List.mem_cons_of_mem _ hu)
    exact ⟨f :: fs, .cons hf hfs⟩
theorem cr_sortF {X : Cx} : CallR X (.builtin "sorted") (rSortF X.K) := by
  intro pins s σ H vs us Q I r h
  obtain ⟨a, xs, g, rfl, hs, hx, q⟩ := h
  obtain ⟨its, rv, hl, hz⟩ := I.list hs
  obtain ⟨u, rfl, ru⟩ := vals1 r
  obtain rfl : u = Value.ref a := ru
  obtain ⟨e1, e2⟩ := refs_back rv fun x m => by
    obtain ⟨t, e, _⟩ := hx x m
    exact ⟨t, e⟩
  have hkey : ∀ v ∈ its, ∃ t o t1 t2 t3 n, v = .ref t ∧ s.heap.get? t = some o ∧ o.cls = .type "tuple" ∧ o.data = .seq #[.int (g (backV v)).1 t1, .int (g (backV v)).2.1 t2, .str (g (backV v)).2.2 t3] n := by
    intro v hv
    obtain ⟨t, rfl⟩ := e2 v hv
    have hm : V.ref t ∈ xs := by rw [e1]; exact List.mem_map.mpr ⟨_, hv, rfl⟩
    obtain ⟨t', e, ht⟩ := hx _ hm
    cases e
    obtain ⟨_, its2, r2, o, ho, hc, n, hd⟩ := I.hok _ _ ht
    cases r2 with
    | cons ra rr =>
      cases rr with
      | cons rb rr =>
        cases rr with
        | cons rc rr =>
          cases rr
          obtain ⟨t1, rfl⟩ := ra
          obtain ⟨t2, rfl⟩ := rb
          obtain ⟨t3, rfl⟩ := rc
          exact ⟨t, o, t1, t2, t3, n, rfl, ho, hc, hd⟩
  have hk : ∀ v ∈ its, tupKeyC s.heap sh3 v = some [Sum.inl (g (backV v)).1, Sum.inl (g (backV v)).2.1, Sum.inr (g (backV v)).2.2.cps.toList] := by
    intro v hv
    obtain ⟨t, o, t1, t2, t3, n, rfl, ho, hc, hd⟩ := hkey v hv
    have h1 : isTupObj s.heap (.ref t) = true := by
      unfold isTupObj
      simp only [ho, hc]
      rfl
    unfold tupKeyC
    rw [if_pos h1]
    unfold tupKey
    simp only [ho, hd]
    rfl
  obtain ⟨fs, ht⟩ := tups_ex (h := s.heap) its fun v hv => by
    obtain ⟨t, o, t1, t2, t3, n, rfl, ho, hc, hd⟩ := hkey v hv
    exact ⟨_, t, o, _, n, rfl, ho, hc, hd, rfl, fun _ => ⟨_, _, rfl⟩, fun z => nomatch z⟩
  refine sorted_tups hl.isList ht (fun v hv => ⟨_, hk v hv⟩) (by rw [← rv.length]; exact hz) fun st' h1 h2 h3 => ?_
  have pl : (arrOf st').toList.Perm (its.zip its) := by
    have := h1
    rw [← pairsOf_toList]
    exact Array.Perm.toList this
  have pm : ∀ p ∈ (arrOf st').toList, p.1 = p.2 ∧ p.1 ∈ its := fun p hp => mem_zip_self (pl.mem_iff.mp hp)
  have po : ((arrOf st').toList.map (·.2)).Perm its := by
    have := pl.map (·.2)
    rwa [show (its.zip its).map (·.2) = its from by rw [List.map_snd_zip]; exact Nat.le_refl _] at this
  generalize (arrOf st') = arr at h1 h2 pl pm po
  obtain ⟨ep, he'⟩ := PyProof.Rows.sortedAll_at s.heap its (arr.map (·.2))
  have eo : (arr.map (·.2)).toList = arr.toList.map (·.2) := by simp
  have ho : ∀ u ∈ (arr.toList.map (·.2)), ∃ a, u = Value.ref a := fun u hu => e2 u (po.mem_iff.mp hu)
  have hn := I.hok.fresh (Nat.le_succ s.heap.objs.size)
  have pb : ((arr.toList.map (·.2)).map backV).Perm xs := by rw [e1]; exact po.map _
  refine ⟨.ref _, upd H (s.heap.objs.size + 1) (.lst ((arr.toList.map (·.2)).map backV)), I.laid (t' := s.toks) (fun _ _ => PyProof.Rows.sortedAll_old) (Nat.le_succ _) ⟨by rw [pb.length_eq]; exact hz, arr.toList.map (·.2), ep, vals_back ho, by rw [← eo, Array.toArray_toList]; exact he'⟩, rfl, q _ _ pb (fun y0 hy0 x hxm => ?_) hn⟩
  obtain ⟨p0, hp0, rfl⟩ : ∃ p0, arr.toList[0]? = some p0 ∧ backV p0.2 = y0 := by
    rw [List.getElem?_map, List.getElem?_map] at hy0
    cases e : arr.toList[0]? with
    | none => rw [e] at hy0; cases hy0
    | some p0 => rw [e] at hy0; exact ⟨p0, rfl, Option.some.inj hy0⟩
  obtain ⟨u, hu, rfl⟩ : ∃ u ∈ its, backV u = x := by
    rw [e1] at hxm
    obtain ⟨u, hu, e⟩ := List.mem_map.mp hxm
    exact ⟨u, hu, e⟩
  have hmz : (u, u) ∈ its.zip its := by
    obtain ⟨i, hi, e⟩ := List.getElem_of_mem hu
    have : (its.zip its)[i]? = some (u, u) := by
      rw [List.getElem?_zip_eq_some]
      exact ⟨by rw [List.getElem?_eq_getElem hi, e], by rw [List.getElem?_eq_getElem hi, e]⟩
    exact List.mem_of_getElem? this
  obtain ⟨j, hj, ej⟩ := List.getElem_of_mem (pl.mem_iff.mpr hmz)
  have hm0 := pm p0 (List.mem_of_getElem? hp0)
  have hs0 : (pairsOf its).size = arr.toList.length := by rw [pl.length_eq, pairsOf_size, List.length_zip, Nat.min_self]
  have le := h2 0 j (Nat.zero_le _) (by rw [hs0]; exact hj)
  have k0 : KK (tupKindC s.heap sh3) arr 0 = [Sum.inl (g (backV p0.2)).1, Sum.inl (g (backV p0.2)).2.1, Sum.inr (g (backV p0.2)).2.2.cps.toList] := by
    unfold KK
    rw [← Array.getElem?_toList, hp0]
    show (tupKeyC s.heap sh3 p0.1).getD [] = _
    rw [hk p0.1 hm0.2, hm0.1]; rfl
  have kj : KK (tupKindC s.heap sh3) arr j = [Sum.inl (g (backV u)).1, Sum.inl (g (backV u)).2.1, Sum.inr (g (backV u)).2.2.cps.toList] := by
    unfold KK
    rw [← Array.getElem?_toList, List.getElem?_eq_getElem hj, ej]
    show (tupKeyC s.heap sh3 u).getD [] = _
    rw [hk u hu]; rfl
  rw [k0, kj] at le
  generalize g (backV p0.2) = A at le
  generalize g (backV u) = B at le
  have le : lexLt itemOrd [Sum.inl B.1, Sum.inl B.2.1, Sum.inr B.2.2.cps.toList] [Sum.inl A.1, Sum.inl A.2.1, Sum.inr A.2.2.cps.toList] = false := le
  rw [lex_cons, lex_cons] at le
  have le : (decide (B.1 < A.1) || (!decide (A.1 < B.1) && (decide (B.2.1 < A.2.1) || (!decide (A.2.1 < B.2.1) && _)))) = false := le
  rw [Bool.or_eq_false_iff] at le
  obtain ⟨l1, l2⟩ := le
  have l1 := of_decide_eq_false l1
  by_cases c : A.1 < B.1
  · exact .inl c
  · rw [decide_eq_false c, Bool.not_false, Bool.true_and, Bool.or_eq_false_iff] at l2
    have l3 := of_decide_eq_false l2.1
    exact .inr ⟨by omega, by omega⟩
end WP

namespace D
open PySem PySem.Spec PyProof.Rows L2
local macro_rules | `(tactic| k_memK) => `(tactic| first
  | (with_reducible refine WP.eqTS ?_) | (with_reducible refine WP.neTS ?_) | (with_reducible refine WP.bm ?_) | (with_reducible refine WP.tyS ?_) | (with_reducible refine WP.gsub ?_) | (with_reducible refine WP.rng3 ?_) | (with_reducible refine WP.sfld ?_) | (with_reducible refine WP.make ?_) | (with_reducible refine WP.gsl ?_) | (with_reducible refine WP.wstr ?_) | (with_reducible refine WP.bm0 ?_) | (with_reducible refine WP.lc ?_) | (with_reducible refine WP.jr ?_) | (with_reducible refine WP.zipS ?_) | (with_reducible refine WP.par ?_) | (with_reducible refine WP.ost ?_) | (with_reducible refine WP.mko ?_) | (with_reducible refine WP.enum1 ?_) | (with_reducible refine WP.tupRev ?_) | (with_reducible refine WP.rev ?_) | (with_reducible refine WP.dnewK ?_) | (with_reducible refine WP.din ?_) | (with_reducible refine WP.dnotin ?_) | (with_reducible refine WP.dput ?_) | (with_reducible refine WP.dget ?_)
  | (with_reducible refine WP.seq ?_) | (with_reducible refine WP.asg ?_) | (with_reducible refine WP.name ?_)
  | ((with_reducible show tVar _ _ _ _); refine WP.var rfl ?_) | (with_reducible refine WP.con ?_) | (with_reducible refine WP.op ?_) | (with_reducible refine WP.i0 ?_)
  | (with_reducible refine WP.un ?_) | (with_reducible refine WP.rU_ ?_)
  | (with_reducible refine WP.ifS ?_) | (with_reducible refine WP.ifE ?_) | (with_reducible refine WP.test ?_) | (with_reducible refine WP.bt ?_) | (with_reducible refine WP.isbV ?_)
  | (with_reducible refine WP.ret ?_) | (with_reducible refine WP.retN ?_) | (with_reducible refine WP.drop ?_) | (with_reducible refine WP.next ?_) | (with_reducible refine WP.brk ?_) | (with_reducible refine WP.cont ?_)
  | (with_reducible refine WP.cb ?_) | (with_reducible refine WP.call ?_) | (with_reducible refine WP.cons ?_) | (with_reducible refine WP.nil ?_) | (with_reducible refine WP.tup ?_) | (with_reducible refine WP.lst ?_)
  | (with_reducible refine WP.eqI ?_) | (with_reducible refine WP.neI ?_) | (with_reducible refine WP.eqT ?_) | (with_reducible refine WP.neT ?_) | (with_reducible refine WP.eqB ?_) | (with_reducible refine WP.neB ?_)
  | (with_reducible refine WP.notT ?_) | (with_reducible refine WP.andT ?_) | (with_reducible refine WP.orT ?_) | (with_reducible refine WP.andV ?_) | (with_reducible refine WP.orV ?_) | (with_reducible refine WP.notV ?_)
  | (with_reducible refine WP.sl ?_) | (with_reducible refine WP.noPart ?_) | (with_reducible refine WP.part ?_) | (with_reducible refine WP.isi ?_) | (with_reducible refine WP.isbV ?_) | (with_reducible refine WP.gsCons ?_) | (with_reducible refine WP.gsNil ?_) | (with_reducible refine WP.forl ?_) | (with_reducible refine WP.rng1 ?_) | (with_reducible refine WP.rng2 ?_) | (with_reducible refine WP.walkL ?_) | (with_reducible refine WP.walkT ?_))
local macro_rules | `(tactic| k_updF) => `(tactic| repeat k_memK)

def top (i : Nat) : Stmt := PySem.Challenge.pw_cardwright_k30_tokens.main.body.getD i (.Pass ⟨0, 0, 0, 0⟩)
structure Blt (w : World) (K : PySem.W.Frag) (mg : Str → Option Value) : Prop where
  b_ValueError : mg "ValueError" = none
  b_all : mg "all" = none
  b_bool : mg "bool" = none
  b_enumerate : mg "enumerate" = none
  b_int : mg "int" = none
  b_isinstance : mg "isinstance" = none
  b_len : mg "len" = none
  b_list : mg "list" = none
  b_ord : mg "ord" = none
  b_range : mg "range" = none
  b_sorted : mg "sorted" = none
  b_str : mg "str" = none
  b_tuple : mg "tuple" = none
  c_DOUBLED_QUOTE : ∃ u, mg "DOUBLED_QUOTE" = some u ∧ RelV (.str (SX.S [39, 39])) u
  c_FIRST_PRINTABLE : ∃ u, mg "FIRST_PRINTABLE" = some u ∧ RelV (.int 32) u
  c_LAST_PRINTABLE : ∃ u, mg "LAST_PRINTABLE" = some u ∧ RelV (.int 126) u
  c_MOST_PROGRAM : ∃ u, mg "MOST_PROGRAM" = some u ∧ RelV (.int 40000) u
  c_NOT_PRINTABLE : ∃ u, mg "NOT_PRINTABLE" = some u ∧ RelV (.int 37) u
  c_QUOTE : ∃ u, mg "QUOTE" = some u ∧ RelV (.str (SX.S [39])) u
  rp_DOUBLED_QUOTE_QUOTE : WR.Rp mg "DOUBLED_QUOTE" "QUOTE" "''" "'"
  rp_QUOTE_DOUBLED_QUOTE : WR.Rp mg "QUOTE" "DOUBLED_QUOTE" "'" "''"
  xi_BadData : WP.ExiOk K mg "BadData" ["reason", "name"]
  xi_BadPart : WP.ExiOk K mg "BadPart" ["reason", "name"]
  xi_BadProgram : WP.ExiOk K mg "BadProgram" ["line", "reason"]
  e_BadDecimal : WP.ExcOk K mg "BadDecimal"
  e_CardError : WP.ExcOk K mg "CardError"
  t_BadProgram_ValueError : PySem.W.kitOne K (.ref (WP.ca mg "BadProgram")) (.type "ValueError") = some true
  s_BadProgram_BadProgram : PySem.W.subIn K (.ref (WP.ca mg "BadProgram")) (.ref (WP.ca mg "BadProgram")) = some true
  i_BadProgram_BadData : PySem.W.kitOne K (.ref (WP.ca mg "BadProgram")) (.ref (WP.ca mg "BadData")) = some false
  i_BadProgram_BadDecimal : PySem.W.kitOne K (.ref (WP.ca mg "BadProgram")) (.ref (WP.ca mg "BadDecimal")) = some false
  i_BadProgram_BadPart : PySem.W.kitOne K (.ref (WP.ca mg "BadProgram")) (.ref (WP.ca mg "BadPart")) = some false
  i_BadProgram_CardError : PySem.W.kitOne K (.ref (WP.ca mg "BadProgram")) (.ref (WP.ca mg "CardError")) = some true
abbrev s__law_draws : Stmt := top 21
abbrev N__law_draws : List Str := ["script"]
theorem sc__law_draws : FnScope N__law_draws ["script"] (defScope s__law_draws) := ⟨rfl, rfl, rfl, by decide +kernel, rfl, by decide +kernel, by decide +kernel⟩
/-- the drawing state at d: z is its list and the list's numbers -/
abbrev DZ := Addr × List Int
def DS (K : PySem.W.Frag) (H : Hp) (d : Addr) (z : DZ) : Prop := ∃ (pos cur mix : Int), H d = some (.lst [.ref z.1, .int pos, .int cur, .int mix]) ∧ z.1 ≠ d ∧ H z.1 = some (.lst (z.2.map V.int)) ∧ 0 ≤ pos
theorem DS.same {K : PySem.W.Frag} {H H' : Hp} {d : Addr} {z : DZ} (e : Same H H') (h : DS K H d z) : DS K H' d z := by
  obtain ⟨pos, cur, mix, h1, h2, h3, h4⟩ := h
  exact ⟨pos, cur, mix, e _ _ h1, h2, e _ _ h3, h4⟩
theorem DS.lst {K : PySem.W.Frag} {H : Hp} {d : Addr} {z : DZ} (h : DS K H d z) : ∃ xs, H d = some (.lst xs) := by
  obtain ⟨pos, cur, mix, h1, _⟩ := h
  exact ⟨_, h1⟩
theorem DS.tup {K : PySem.W.Frag} {H H' : Hp} {d p : Addr} {z : DZ} {xs : List V} (h : DS K H d z) (s : WP.Sx d H H') (hp : SqT K H p xs) : SqT K H' p xs := by
  obtain ⟨ys, hx⟩ := h.lst
  exact WP.sqtX s hx hp
theorem DS.new {K : PySem.W.Frag} {H : Hp} {d p : Addr} {z : DZ} (h : DS K H d z) (hp : H p = none) : p ≠ d ∧ p ≠ z.1 := by
  obtain ⟨pos, cur, mix, h1, h2, h3, h4⟩ := h
  exact ⟨fun e => (by rw [e, h1] at hp; cases hp), fun e => (by rw [e, h3] at hp; cases hp)⟩
theorem DS.mut {K : PySem.W.Frag} {H : Hp} {d p : Addr} {z : DZ} {o : HO} (h : DS K H d z) (n : p ≠ d ∧ p ≠ z.1) : DS K (upd H p o) d z := by
  obtain ⟨pos, cur, mix, h1, h2, h3, h4⟩ := h
  exact ⟨pos, cur, mix, by rw [upd_ne (Ne.symm n.1)]; exact h1, h2, by rw [upd_ne (Ne.symm n.2)]; exact h3, h4⟩
theorem DS.alloc {K : PySem.W.Frag} {H : Hp} {d T : Addr} {z : DZ} {o : HO} (h : DS K H d z) (hT : H T = none) : DS K (upd H T o) d z ∧ T ≠ d ∧ WP.Sx d H (upd H T o) ∧ (upd H T o) T = some o :=
  ⟨h.same (WP.same_new hT), (h.new hT).1, WP.Sx.of (WP.same_new hT), upd_same⟩
/-- what was new may be stored to -/
theorem sx_mut {d p : Addr} {H H' : Hp} {o : HO} (e : WP.Sx d H H') (h : H p = none) : WP.Sx d H (upd H' p o) := fun a u n ha => by
  rw [upd_ne (ne_of_none ha h)]; exact e a u n ha
theorem sx_free {d p : Addr} {H H' : Hp} (e : WP.Sx d H H') (n : p ≠ d) (h : H' p = none) : H p = none := by
  cases q : H p with
  | none => rfl
  | some o => have := e p o n q; rw [h] at this; cases this
def sp__law_draws (K : PySem.W.Frag) (mg : WP.MG) : Sp := fun vs H Q _ => ∃ (a : Addr) (ns : List Int), vs = [.ref a] ∧ SqL K H a (ns.map V.int) ∧ ∀ d z H', z.2 = ns → H z.1 = none → H d = none → Same H H' → DS K H' d z → Q (.ref d) H'
section
variable {P : Program} {w : World} {K : PySem.W.Frag} {mg : Str → Option Value} {base : Heap}
theorem ok__law_draws {f : Addr} {fd : FuncData} (F : Fun K "_law_draws" "_law_draws" s__law_draws f fd) (B : Blt w K mg)  : FnOk P w K mg base CX0 1 f fd ["script"] (sp__law_draws K mg) := by
  refine F.ok sc__law_draws (fun vs H Q E h => ?_) (fun cdv A outer s H vs Q E hr h => ?_)
  · first | (obtain ⟨_, rfl, _⟩ := h; rfl) | (obtain ⟨_, _, rfl, _⟩ := h; rfl) | (obtain ⟨_, _, _, rfl, _⟩ := h; rfl) | (obtain ⟨_, _, _, _, rfl, _⟩ := h; rfl) | (obtain ⟨_, _, _, _, _, rfl, _⟩ := h; rfl) | (obtain ⟨_, _, _, _, _, _, rfl, _⟩ := h; rfl) | (obtain ⟨_, _, _, _, _, _, _, rfl, _⟩ := h; rfl) | (obtain ⟨_, _, _, _, _, _, _, _, rfl, _⟩ := h; rfl) | (obtain ⟨rfl, _⟩ := h; rfl)
  · obtain ⟨a, ns, rfl, ha, k⟩ := h
    refine ⟨_, (pss_one (ps_ret (pe_lst (WP.pa_consN (pe_callTy WP.c_listOf (by rfl) B.b_list (by decide +kernel) (WP.pa_consN (pv 0) pa_nil)) (WP.pa_consN pe_int (WP.pa_consN pe_int (WP.pa_consN pe_int pa_nil))))))), ?_⟩
    k_updF
    refine WP.listL ha (fun l hl => ?_)
    k_updF
    refine ⟨WP.sz (show 4 ≤ 1000000 by decide), fun d hd => ?_⟩
    have ne : l ≠ d := fun z => by subst z; rw [upd_same] at hd; cases hd
    exact k d (l, ns) _ rfl hl ((WP.same_new hl).free hd) ((WP.same_new hl).trans (WP.same_new hd)) ⟨0, 0, 1, upd_same, ne, by rw [upd_ne ne, upd_same], by decide⟩
end
abbrev s__law_draw : Stmt := top 22
abbrev N__law_draw : List Str := ["draws", "limit", "cell", "value"]
theorem sc__law_draw : FnScope N__law_draw ["draws", "limit"] (defScope s__law_draw) := ⟨rfl, rfl, rfl, by decide +kernel, rfl, by decide +kernel, by decide +kernel⟩
def sp__law_draw (K : PySem.W.Frag) (mg : WP.MG) : Sp := fun vs H Q _ => ∃ (d : Addr) (ns : DZ) (m : Int), vs = [.ref d, .int m] ∧ 0 < m ∧ WP.Bt m 8000 ∧ DS K H d ns ∧ ∀ v H', 0 ≤ v → v < m → WP.Sx d H H' → DS K H' d ns → Q (.int v) H'
section
variable {P : Program} {w : World} {K : PySem.W.Frag} {mg : Str → Option Value} {base : Heap}
theorem ok__law_draw {f : Addr} {fd : FuncData} (F : Fun K "_law_draw" "_law_draw" s__law_draw f fd) (B : Blt w K mg)  : FnOk P w K mg base CX0 1 f fd ["draws", "limit"] (sp__law_draw K mg) := by
  refine F.ok sc__law_draw (fun vs H Q E h => ?_) (fun cdv A outer s H vs Q E hr h => ?_)
  · first | (obtain ⟨_, rfl, _⟩ := h; rfl) | (obtain ⟨_, _, rfl, _⟩ := h; rfl) | (obtain ⟨_, _, _, rfl, _⟩ := h; rfl) | (obtain ⟨_, _, _, _, rfl, _⟩ := h; rfl) | (obtain ⟨_, _, _, _, _, rfl, _⟩ := h; rfl) | (obtain ⟨_, _, _, _, _, _, rfl, _⟩ := h; rfl) | (obtain ⟨_, _, _, _, _, _, _, rfl, _⟩ := h; rfl) | (obtain ⟨_, _, _, _, _, _, _, _, rfl, _⟩ := h; rfl) | (obtain ⟨rfl, _⟩ := h; rfl)
  · obtain ⟨d, ns, m, rfl, hm, bm, hd, k⟩ := h
    refine ⟨_, (Evl.pss_cut (ps_if (PW.pt (pw_and (pt_cmpR op_eq (pe_ix ix_list (pv 0) pe_int (fun _ _ => rfl)) pe_int (nomark _)) (pw_and1 (pt_cmpR op_lt (pe_ix ix_list (pv 0) pe_int (fun _ _ => rfl)) (pe_callB WP.c_len (by rfl) B.b_len (by decide +kernel) (WP.pa_consN (pe_ix ix_list (pv 0) pe_int (fun _ _ => rfl)) pa_nil)) (nomark _))))) (pss_cons (ps_set (i := 2) sc__law_draw.nd rfl (Or.inl rfl) (pe_ix ix_list (pe_ix ix_list (pv 0) pe_int (fun _ _ => rfl)) (pe_ix ix_list (pv 0) pe_int (fun _ _ => rfl)) (fun _ _ => rfl)))
      (pss_cons (ps_asg (pe_op op_add (pe_ix ix_list (pv 0) pe_int (fun _ _ => rfl)) pe_int) (pg_sub (pv 0) pe_int set_list))
      (Evl.pss_cut (ps_if (pt_cmpR op_ge (pv 2) (pe_op op_pow pe_int pe_int) (nomark _)) (pss_one (ps_asg (pv 2) (pg_sub (pv 0) pe_int set_list))) pss_nil)
      (pss_one (ps_asg (pe_op op_mod (pe_callTy WP.c_int1 (by rfl) B.b_int (by decide +kernel) (WP.pa_consN (pe_op op_add (pe_op op_add (pe_op op_mul (pe_ix ix_list (pv 0) pe_int (fun _ _ => rfl)) pe_int) (pv 2)) pe_int) pa_nil)) pe_int) (pg_sub (pv 0) pe_int set_list)))))) pss_nil)
      (pss_cons (ps_if (pt_cmpR op_gt (pe_ix ix_list (pv 0) pe_int (fun _ _ => rfl)) pe_int (nomark _)) (pss_cons (ps_set (i := 3) sc__law_draw.nd rfl (Or.inl rfl) (pe_op op_mod (pe_callTy WP.c_int1 (by rfl) B.b_int (by decide +kernel) (WP.pa_consN (pe_ix ix_list (pv 0) pe_int (fun _ _ => rfl)) pa_nil)) (pv 1)))
      (pss_cons (ps_asg (pe_op op_fdivW (pe_ix ix_list (pv 0) pe_int (fun _ _ => rfl)) (pv 1)) (pg_sub (pv 0) pe_int set_list))
      (pss_one (ps_ret (pv 3))))) pss_nil)
      (pss_cons (ps_asg (pe_op op_mod (pe_callTy WP.c_int1 (by rfl) B.b_int (by decide +kernel) (WP.pa_consN (pe_op op_add (pe_op op_mul (pe_ix ix_list (pv 0) pe_int (fun _ _ => rfl)) pe_int) pe_int) pa_nil)) pe_int) (pg_sub (pv 0) pe_int set_list))
      (pss_one (ps_ret (pe_op op_mod (pe_callTy WP.c_int1 (by rfl) B.b_int (by decide +kernel) (WP.pa_consN (pe_op op_fdiv (pe_ix ix_list (pv 0) pe_int (fun _ _ => rfl)) pe_int) pa_nil)) (pv 1))))))), ?_⟩
    obtain ⟨l, ns⟩ := ns
    obtain ⟨pos, cur, mix, h1, h2, h3, h4⟩ := hd
    have h3 : SqL K H l (ns.map V.int) := SqL.of h3
    have h3' : H l = some (.lst (ns.map V.int)) := by assumption
    refine WP.cut (fun σ' H' => (∃ z z2, σ' = [some (.ref d), some (.int m), z, z2]) ∧ WP.Sx d H H' ∧ DS K H' d (l, ns)) ?_ ?_
    · k_updF
      refine WP.ixL (SqL.of h1) WP.at2 ?_
      k_updF
      have hD : DS K H d (l, ns) := ⟨pos, cur, mix, h1, h2, h3', h4⟩
      refine WP.br (fun c => ?_) (fun c => ?_)
      · k_updF
        refine WP.ixL (SqL.of h1) WP.at1 ?_
        k_updF
        refine WP.ixL (SqL.of h1) WP.at0 ?_
        k_updF
        refine WP.lenL h3 ?_
        k_updF
        refine WP.br (fun c2 => ?_) (fun c2 => ?_)
        · k_updF
          rw [List.length_map] at c2
          refine WP.ixL (SqL.of h1) WP.at0 ?_
          k_updF
          refine WP.ixL (SqL.of h1) WP.at1 ?_
          refine WP.ixL h3 (WP.at_ints h4 c2) ?_
          k_updF
          generalize ns.getD pos.toNat 0 = cell
          refine WP.ixL (SqL.of h1) WP.at1 ?_
          k_updF
          refine WP.setL h1 rfl ?_
          generalize hH1 : upd H d _ = H1
          have g1 : H1 d = some (.lst [.ref l, .int (pos + 1), .int cur, .int mix]) := by rw [← hH1, upd_same]; rfl
          have s1 : WP.Sx d H H1 := by rw [← hH1]; exact WP.Sx.upd
          have l1 := WP.sqlX (K := K) s1 h2 h3
          clear hH1
          refine WP.cut (fun σ' H' => σ' = [some (.ref d), some (.int m), some (.int cell), none] ∧ WP.Sx d H H' ∧ ∃ cur, H' d = some (.lst [.ref l, .int (pos + 1), .int cur, .int mix])) ?_ ?_
          · k_updF
            refine WP.iC ⟨by decide, by decide, by decide⟩ ?_
            k_updF
            refine WP.br (fun c => ?_) (fun c => ?_)
            · k_updF
              refine WP.setL g1 rfl ?_
              exact ⟨rfl, s1.trans WP.Sx.upd, cell, by rw [upd_same]; rfl⟩
            · k_updF
              exact ⟨rfl, s1, cur, g1⟩
          · rintro σ' H2 ⟨rfl, s2, cur2, g2⟩
            have l2 := WP.sqlX (K := K) s2 h2 h3
            k_updF
            refine WP.ixL (SqL.of g2) WP.at3 ?_
            k_updF
            refine WP.iC (.inr (by decide)) ?_
            k_updF
            refine WP.intI ?_
            k_updF
            refine WP.iC (by decide) ?_
            k_updF
            refine WP.setL g2 rfl ?_
            refine ⟨⟨_, _, rfl⟩, s2.trans WP.Sx.upd, pos + 1, cur2, _, by rw [upd_same]; rfl, h2, (s2.trans WP.Sx.upd) l _ h2 h3', by omega⟩
        · k_updF
          exact ⟨⟨_, _, rfl⟩, WP.Sx.refl, hD⟩
      · k_updF
        refine WP.brF rfl ?_
        k_updF
        exact ⟨⟨_, _, rfl⟩, WP.Sx.refl, hD⟩
    clear h1 h2 h3 h3' h4 pos cur mix
    rintro σ' H1 ⟨⟨z, z2, rfl⟩, s1, pos, cur, mix, h1, h2, h3', h4⟩
    have h3 : SqL K H1 l (ns.map V.int) := SqL.of h3'
    k_updF
    refine WP.ixL (SqL.of h1) WP.at2 ?_
    k_updF
    refine WP.br (fun c => ?_) (fun c => ?_)
    · k_updF
      refine WP.ixL (SqL.of h1) WP.at2 ?_
      k_updF
      refine WP.intI ?_
      k_updF
      refine WP.iC hm ?_
      k_updF
      refine WP.ixL (SqL.of h1) WP.at2 ?_
      k_updF
      refine WP.iC (WP.Bt.d' hm bm) ?_
      k_updF
      refine WP.setL h1 rfl ?_
      k_updF
      exact k _ _ (Int.emod_nonneg _ (by omega)) (Int.emod_lt_of_pos _ hm) (s1.trans WP.Sx.upd) ⟨pos, _, mix, by rw [upd_same]; rfl, h2, WP.Sx.upd l _ h2 h3', h4⟩
    · k_updF
      refine WP.ixL (SqL.of h1) WP.at3 ?_
      k_updF
      refine WP.iC (.inr (by decide)) ?_
      k_updF
      refine WP.intI ?_
      k_updF
      refine WP.iC (by decide) ?_
      k_updF
      refine WP.setL h1 rfl ?_
      k_updF
      refine WP.ixL (SqL.of upd_same) WP.at3 ?_
      k_updF
      refine WP.iC ⟨by decide, by decide⟩ ?_
      k_updF
      refine WP.intI ?_
      k_updF
      refine WP.iC hm ?_
      exact k _ _ (Int.emod_nonneg _ (by omega)) (Int.emod_lt_of_pos _ hm) (s1.trans WP.Sx.upd) ⟨pos, cur, _, by rw [upd_same]; rfl, h2, WP.Sx.upd l _ h2 h3', h4⟩
end
abbrev s__law_characters : Stmt := top 24
abbrev N__law_characters : List Str := ["draws", "most", "marks", "size", "string", "k", "mark"]
theorem sc__law_characters : FnScope N__law_characters ["draws", "most"] (defScope s__law_characters) := ⟨rfl, rfl, rfl, by decide +kernel, rfl, by decide +kernel, by decide +kernel⟩
def QUO : V := .str (SX.S [113, 117, 111, 116, 101])
def CHR : V := .str (SX.S [99, 104, 97, 114, 97, 99, 116, 101, 114])
def sp__law_characters (K : PySem.W.Frag) (mg : WP.MG) : Sp := fun vs H Q _ => ∃ (d : Addr) (ns : DZ) (m : Nat), vs = [.ref d, .int (m : Int)] ∧ m ≤ 60 ∧ DS K H d ns ∧ ∀ (l : List Nat) (H' : Hp), l.length ≤ 60 → (∀ c ∈ l, 32 ≤ c ∧ c ≤ 126 ∧ c ≠ 37) → WP.Sx d H H' → DS K H' d ns → Q (.str (SX.S l)) H'
section
variable {P : Program} {w : World} {K : PySem.W.Frag} {mg : Str → Option Value} {base : Heap}
theorem ok__law_characters {f : Addr} {fd : FuncData} (F : Fun K "_law_characters" "_law_characters" s__law_characters f fd) (B : Blt w K mg) (c__law_draw : WP.Callee P w K mg base CX0 1 "_law_draw" ["draws", "limit"] (sp__law_draw K mg)) : FnOk P w K mg base CX0 2 f fd ["draws", "most"] (sp__law_characters K mg) := by
  refine F.ok sc__law_characters (fun vs H Q E h => ?_) (fun cdv A outer s H vs Q E hr h => ?_)
  · first | (obtain ⟨_, rfl, _⟩ := h; rfl) | (obtain ⟨_, _, rfl, _⟩ := h; rfl) | (obtain ⟨_, _, _, rfl, _⟩ := h; rfl) | (obtain ⟨_, _, _, _, rfl, _⟩ := h; rfl) | (obtain ⟨_, _, _, _, _, rfl, _⟩ := h; rfl) | (obtain ⟨_, _, _, _, _, _, rfl, _⟩ := h; rfl) | (obtain ⟨_, _, _, _, _, _, _, rfl, _⟩ := h; rfl) | (obtain ⟨_, _, _, _, _, _, _, _, rfl, _⟩ := h; rfl) | (obtain ⟨rfl, _⟩ := h; rfl)
  · obtain ⟨d, ns, m, rfl, hm, hd, k⟩ := h
    refine ⟨_, (pss_cons (ps_set (i := 2) sc__law_characters.nd rfl (Or.inl rfl) (WP.pe_strL [32, 33, 34, 35, 36, 38, 40, 41, 42, 43, 44, 45, 46, 47, 48, 49, 50, 51, 52, 53, 54, 55, 56, 57, 58, 59, 60, 61, 62, 63, 64, 65, 66, 67, 68, 69, 70, 71, 72, 73, 74, 75, 76, 77, 78, 79, 80, 81, 82, 83, 84, 85, 86, 87, 88, 89, 90, 91, 92, 93, 94, 95, 96] (by decide +kernel)))
      (pss_cons (ps_set (i := 2) sc__law_characters.nd rfl (Or.inl rfl) (pe_op WP.op_addS (pv 2) (WP.pe_strL [97, 98, 99, 100, 101, 102, 103, 104, 105, 106, 107, 108, 109, 110, 111, 112, 113, 114, 115, 116, 117, 118, 119, 120, 121, 122, 123, 124, 125, 126, 39] (by decide +kernel))))
      (pss_cons (ps_set (i := 3) sc__law_characters.nd rfl (Or.inl rfl) (WP.pe_callC c__law_draw hr rfl pass0 (WP.pa_consN (pv 0) (WP.pa_consN pe_int pa_nil))))
      (Evl.pss_cut (ps_if (pt_cmpR op_eq (WP.pe_callC c__law_draw hr rfl pass0 (WP.pa_consN (pv 0) (WP.pa_consN pe_int pa_nil))) pe_int (nomark _)) (pss_one (ps_set (i := 3) sc__law_characters.nd rfl (Or.inl rfl) (WP.pe_callC c__law_draw hr rfl pass0 (WP.pa_consN (pv 0) (WP.pa_consN (pe_op op_add (pv 1) pe_int) pa_nil))))) pss_nil)
      (pss_cons (ps_set (i := 4) sc__law_characters.nd rfl (Or.inl rfl) (WP.pe_strL [] (by decide +kernel)))
      (pss_cons (ps_for PassesOwn.never rfl (pi_range1 rfl B.b_range (WP.pa_consN (pv 3) pa_nil)) (pg_name (i := 5) sc__law_characters.nd rfl (Or.inl rfl)) (pss_cons (ps_set (i := 6) sc__law_characters.nd rfl (Or.inl rfl) (pe_ix ix_str (pv 2) (WP.pe_callC c__law_draw hr rfl pass0 (WP.pa_consN (pv 0) (WP.pa_consN (pe_callB WP.c_len (by rfl) B.b_len (by decide +kernel) (WP.pa_consN (pv 2) pa_nil)) pa_nil))) (fun _ _ => rfl)))
      (Evl.pss_cut (ps_if (pt_cmpR op_eq (WP.pe_callC c__law_draw hr rfl pass0 (WP.pa_consN (pv 0) (WP.pa_consN pe_int pa_nil))) pe_int (nomark _)) (pss_one (ps_set (i := 6) sc__law_characters.nd rfl (Or.inl rfl) (WP.pe_strL [39] (by decide +kernel)))) pss_nil)
      (pss_one (ps_set (i := 4) sc__law_characters.nd rfl (Or.inl rfl) (pe_op WP.op_addS (pv 4) (pv 6)))))))
      (pss_one (ps_ret (pv 4))))))))), ?_⟩
    k_updF
    refine WP.catS (a := MK.MA) (b := MK.MB) ?_ (by rw [sizeLine_eq]; decide)
    have hMl : (MK.MA ++ MK.MB).length ≤ sizeLine := by rw [sizeLine_eq]; decide
    have hM1 : 1 ≤ (MK.MA ++ MK.MB).length := by decide
    have hM2 : (MK.MA ++ MK.MB).length ≤ 200 := by decide
    have hok := MK.ma_ok
    generalize MK.MA ++ MK.MB = M at hMl hM1 hM2 hok ⊢
    k_updF
    refine ⟨d, ns, _, rfl, by decide, WP.bt8 (by decide), hd, fun z0 H1 z00 z01 s1 hd1 => ?_⟩
    k_updF
    refine WP.cut (fun σ' H' => WP.Sx d H H' ∧ DS K H' d ns ∧ ∃ n : Nat, n ≤ 60 ∧ σ' = [some (.ref d), some (.int (m : Int)), some (.str (SX.S M)), some (.int (n : Int)), none, none, none]) ?_ ?_
    · k_updF
      refine ⟨d, ns, _, rfl, by decide, WP.bt8 (by decide), hd1, fun v H2 v0 v1 s2 hd2 => ?_⟩
      k_updF
      refine WP.br (fun c => ?_) (fun c => ?_)
      · k_updF
        refine ⟨d, ns, _, rfl, by omega, WP.bt8 (by omega), hd2, fun v H3 v0 v1 s3 hd3 => ?_⟩
        k_updF
        exact ⟨(s1.trans s2).trans s3, hd3, v.toNat, by omega, by rw [Int.toNat_of_nonneg v0]; rfl⟩
      · k_updF
        exact ⟨s1.trans s2, hd2, z0.toNat, by omega, by rw [Int.toNat_of_nonneg z00]; rfl⟩
    clear s1 hd1 hd
    rintro σ' H1 ⟨s1, hd1, n, hn, rfl⟩
    k_updF
    refine ⟨_, rfl, by omega, by omega, for_range (lo := 0) (n := _) (fun i σ' H' => WP.Sx d H H' ∧ DS K H' d ns ∧ ∃ (l : List Nat) (z z2 : Option V), σ' = [some (.ref d), some (.int (m : Int)), some (.str (SX.S M)), some (.int (n : Int)), some (.str (SX.S l)), z, z2] ∧ l.length = i ∧ ∀ c ∈ l, 32 ≤ c ∧ c ≤ 126 ∧ c ≠ 37)
      ⟨s1, hd1, [], none, none, rfl, rfl, fun c h => by cases h⟩ ?_ ?_⟩
    · rintro i σ' H2 hi ⟨s2, hd2, l, z, z2, rfl, hl, ok⟩
      rw [Int.toNat_natCast] at hi
      k_updF
      refine WP.lenS' hMl ?_
      k_updF
      refine ⟨d, ns, _, rfl, by omega, WP.bt8 (by omega), hd2, fun v H3 v0 v1 s3 hd3 => ?_⟩
      obtain ⟨q, hq, hqa⟩ := WP.at_C v0 v1
      refine WP.ixS1 hqa hMl ?_
      k_updF
      refine WP.cut (fun σ' H' => WP.Sx d H H' ∧ DS K H' d ns ∧ ∃ (q : Nat) (z : Option V), (32 ≤ q ∧ q ≤ 126 ∧ q ≠ 37) ∧ σ' = [some (.ref d), some (.int (m : Int)), some (.str (SX.S M)), some (.int (n : Int)), some (.str (SX.S l)), z, some (.str (SX.S [q]))]) ?_ ?_
      · k_updF
        refine ⟨d, ns, _, rfl, by decide, WP.bt8 (by decide), hd3, fun v H4 v0 v1 s4 hd4 => ?_⟩
        k_updF
        refine WP.br (fun c => ?_) (fun c => ?_)
        · k_updF
          exact ⟨(s2.trans s3).trans s4, hd4, 39, _, by decide, rfl⟩
        · k_updF
          exact ⟨(s2.trans s3).trans s4, hd4, q, _, hok q hq, rfl⟩
      rintro σ' H4 ⟨s4, hd4, q, z, hq, rfl⟩
      k_updF
      refine WP.catS (a := l) (b := [q]) ?_ (by rw [sizeLine_eq]; show _ + 1 ≤ _; omega)
      k_updF
      refine ⟨s4, hd4, l ++ [q], _, _, rfl, by rw [List.length_append, hl]; rfl, fun c hc => ?_⟩
      rcases List.mem_append.mp hc with e | e
      · exact ok c e
      · rw [List.mem_singleton.mp e]; exact hq
    rintro σ' H2 ⟨s2, hd2, l, z, z2, rfl, hl, ok⟩
    rw [Int.toNat_natCast] at hl
    k_updF
    exact k l H2 (by omega) ok s2 hd2
end
abbrev s__law_space : Stmt := top 28
abbrev N__law_space : List Str := ["draws", "least", "most", "space", "k"]
theorem sc__law_space : FnScope N__law_space ["draws", "least", "most"] (defScope s__law_space) := ⟨rfl, rfl, rfl, by decide +kernel, rfl, by decide +kernel, by decide +kernel⟩
def sp__law_space (K : PySem.W.Frag) (mg : WP.MG) : Sp := fun vs H Q _ => ∃ (d : Addr) (ns : DZ) (a b : Nat), vs = [.ref d, .int (a : Int), .int (b : Int)] ∧ a ≤ b ∧ b ≤ 100 ∧ DS K H d ns ∧ ∀ (l : List Nat) (H' : Hp), a ≤ l.length → l.length ≤ b → (∀ c ∈ l, c = 32 ∨ c = 10) → WP.Sx d H H' → DS K H' d ns → Q (.str (SX.S l)) H'
section
variable {P : Program} {w : World} {K : PySem.W.Frag} {mg : Str → Option Value} {base : Heap}
theorem ok__law_space {f : Addr} {fd : FuncData} (F : Fun K "_law_space" "_law_space" s__law_space f fd) (B : Blt w K mg) (c__law_draw : WP.Callee P w K mg base CX0 1 "_law_draw" ["draws", "limit"] (sp__law_draw K mg)) : FnOk P w K mg base CX0 2 f fd ["draws", "least", "most"] (sp__law_space K mg) := by
  refine F.ok sc__law_space (fun vs H Q E h => ?_) (fun cdv A outer s H vs Q E hr h => ?_)
  · first | (obtain ⟨_, rfl, _⟩ := h; rfl) | (obtain ⟨_, _, rfl, _⟩ := h; rfl) | (obtain ⟨_, _, _, rfl, _⟩ := h; rfl) | (obtain ⟨_, _, _, _, rfl, _⟩ := h; rfl) | (obtain ⟨_, _, _, _, _, rfl, _⟩ := h; rfl) | (obtain ⟨_, _, _, _, _, _, rfl, _⟩ := h; rfl) | (obtain ⟨_, _, _, _, _, _, _, rfl, _⟩ := h; rfl) | (obtain ⟨_, _, _, _, _, _, _, _, rfl, _⟩ := h; rfl) | (obtain ⟨rfl, _⟩ := h; rfl)
  · obtain ⟨d, ns, a, b, rfl, hab, hb, hd, k⟩ := h
    refine ⟨_, (pss_cons (ps_set (i := 3) sc__law_space.nd rfl (Or.inl rfl) (WP.pe_strL [] (by decide +kernel)))
      (pss_cons (ps_for PassesOwn.never rfl (pi_range1 rfl B.b_range (WP.pa_consN (pe_op op_add (pv 1) (WP.pe_callC c__law_draw hr rfl pass0 (WP.pa_consN (pv 0) (WP.pa_consN (pe_op op_add (pe_op op_sub (pv 2) (pv 1)) pe_int) pa_nil)))) pa_nil)) (pg_name (i := 4) sc__law_space.nd rfl (Or.inl rfl)) (pss_one (ps_set (i := 3) sc__law_space.nd rfl (Or.inl rfl) (pe_op WP.op_addS (pv 3) (pe_ix ix_list (pe_lst (WP.pa_consN (WP.pe_strL [32] (by decide +kernel)) (WP.pa_consN (WP.pe_strL [32] (by decide +kernel)) (WP.pa_consN (WP.pe_strL [10] (by decide +kernel)) pa_nil)))) (WP.pe_callC c__law_draw hr rfl pass0 (WP.pa_consN (pv 0) (WP.pa_consN pe_int pa_nil))) (fun _ _ => rfl))))))
      (pss_one (ps_ret (pv 3))))), ?_⟩
    k_updF
    refine ⟨d, ns, _, rfl, by omega, WP.bt8 (by omega), hd, fun v H1 v0 v1 s1 hd1 => ?_⟩
    k_updF
    refine ⟨_, rfl, by omega, by omega, for_range (lo := 0) (n := _) (fun i σ' H' => WP.Sx d H H' ∧ DS K H' d ns ∧ ∃ (l : List Nat) (z : Option V), σ' = [some (.ref d), some (.int (a : Int)), some (.int (b : Int)), some (.str (SX.S l)), z] ∧ l.length = i ∧ ∀ c ∈ l, c = 32 ∨ c = 10)
      ⟨s1, hd1, [], none, rfl, rfl, fun c h => by cases h⟩ ?_ ?_⟩
    · rintro i σ' H2 hi ⟨s2, hd2, l, z, rfl, hl, ok⟩
      k_updF
      refine ⟨WP.sz (show 3 ≤ 1000000 by decide), fun T hT => ?_⟩
      obtain ⟨hd3, nT, s3, gT⟩ := hd2.alloc (o := .lst [.str (SX.S [32]), .str (SX.S [32]), .str (SX.S [10])]) hT
      k_updF
      refine ⟨d, ns, _, rfl, by decide, WP.bt8 (by decide), hd3, fun v H4 v0 v1 s4 hd4 => ?_⟩
      obtain ⟨x, hx, hxa⟩ := WP.at_M (l := [32, 32, 10]) (fun c => V.str (SX.S [c])) v0 v1
      refine WP.ixL (SqL.of (s4 _ _ nT gT)) hxa ?_
      refine WP.catS (a := l) (b := [x]) ?_ (by rw [sizeLine_eq]; show _ + 1 ≤ _; omega)
      k_updF
      refine ⟨(s2.trans s3).trans s4, hd4, l ++ [x], _, rfl, by rw [List.length_append, hl]; rfl, fun c hc => ?_⟩
      rcases List.mem_append.mp hc with e | e
      · exact ok c e
      · rw [List.mem_singleton.mp e]; exact (show ∀ x ∈ [32, 32, 10], x = 32 ∨ x = 10 by decide) x hx
    rintro σ' H2 ⟨s2, hd2, l, z, rfl, hl, ok⟩
    k_updF
    exact k l H2 (by omega) (by omega) ok s2 hd2
end
abbrev s__law_lines : Stmt := top 29
abbrev N__law_lines : List Str := ["text", "mark"]
theorem sc__law_lines : FnScope N__law_lines ["text"] (defScope s__law_lines) := ⟨rfl, rfl, rfl, by decide +kernel, rfl, by decide +kernel, by decide +kernel⟩
def sp__law_lines (K : PySem.W.Frag) (mg : WP.MG) : Sp := fun vs H Q _ => ∃ (l : List Nat), vs = [.str (SX.S l)] ∧ l.length ≤ 100000 ∧ WP.RetV (.int ((l.filter (· == 10)).length : Int)) H Q
section
variable {P : Program} {w : World} {K : PySem.W.Frag} {mg : Str → Option Value} {base : Heap}
theorem ok__law_lines {f : Addr} {fd : FuncData} (F : Fun K "_law_lines" "_law_lines" s__law_lines f fd) (B : Blt w K mg)  : FnOk P w K mg base CX0 1 f fd ["text"] (sp__law_lines K mg) := by
  refine F.ok sc__law_lines (fun vs H Q E h => ?_) (fun cdv A outer s H vs Q E hr h => ?_)
  · first | (obtain ⟨_, rfl, _⟩ := h; rfl) | (obtain ⟨_, _, rfl, _⟩ := h; rfl) | (obtain ⟨_, _, _, rfl, _⟩ := h; rfl) | (obtain ⟨_, _, _, _, rfl, _⟩ := h; rfl) | (obtain ⟨_, _, _, _, _, rfl, _⟩ := h; rfl) | (obtain ⟨_, _, _, _, _, _, rfl, _⟩ := h; rfl) | (obtain ⟨_, _, _, _, _, _, _, rfl, _⟩ := h; rfl) | (obtain ⟨_, _, _, _, _, _, _, _, rfl, _⟩ := h; rfl) | (obtain ⟨rfl, _⟩ := h; rfl)
  · obtain ⟨l, rfl, hl, k⟩ := h
    refine ⟨_, (pss_one (ps_ret (pe_callB WP.c_len (by rfl) B.b_len (by decide +kernel) (WP.pa_consN (pe_lc (own := [("mark", 1)]) (g := gName 1) rfl sc__law_lines.nd (pi_str (pv 0)) (blkOk_by (own := [("mark", 1)]) (N := N__law_lines) (sc := defScope s__law_lines) (by decide +kernel)) (fun _ _ _ _ _ => pg_name (i := 1) sc__law_lines.nd rfl (Or.inl rfl)) (fun _ _ _ _ _ => (pts_one (pt_cmpR op_eq (pv 1) (WP.pe_strL [10] (by decide +kernel)) (nomark _)))) (fun _ _ _ _ _ => (pv 1))) pa_nil)))), ?_⟩
    k_updF
    refine ⟨_, rfl, fun D hD => WP.lc_txt (fun i Hx => Hx = upd H D (.lst (((l.take i).filter (· == 10)).map fun c => V.str (SX.S [c])))) rfl ?_ ?_⟩
    · rintro i c Hx hc rfl
      have et : l.take (i + 1) = l.take i ++ [c] := by rw [List.take_succ, hc]; rfl
      k_updF
      refine ⟨rfl, ?_⟩
      k_updF
      refine WP.br (fun h => ?_) (fun h => ?_)
      · have h : c = 10 := by simpa using h
        subst h
        k_updF
        refine ⟨_, upd_same, ?_, ?_⟩
        · rw [List.length_map, sizeLine_eq]
          have := List.length_filter_le (· == 10) (l.take i)
          rw [List.length_take] at this
          omega
        · rw [et, List.filter_append, List.map_append, show [10].filter (· == 10) = [10] from rfl, upd_upd]
          rfl
      · have h : c ≠ 10 := by simpa using h
        rw [et, List.filter_append, show [c].filter (· == 10) = [] by simp [h], List.append_nil]
    rintro Hx rfl
    k_updF
    refine WP.lenL (SqL.of upd_same) ?_
    rw [List.length_map, List.take_length]
    exact k _ (WP.same_new hD)
end
abbrev s__law_word : Stmt := top 27
abbrev N__law_word : List Str := ["draws", "word", "k", "marks"]
theorem sc__law_word : FnScope N__law_word ["draws"] (defScope s__law_word) := ⟨rfl, rfl, rfl, by decide +kernel, rfl, by decide +kernel, by decide +kernel⟩
def sp__law_word (K : PySem.W.Frag) (mg : WP.MG) : Sp := fun vs H Q _ => ∃ (d : Addr) (ns : DZ), vs = [.ref d] ∧ DS K H d ns ∧ ∀ (l : List Nat) (H' : Hp), 1 ≤ l.length → l.length ≤ 9 → (∀ c ∈ l, 33 ≤ c ∧ c ≤ 126 ∧ c ≠ 37 ∧ c ≠ 39) → WP.Sx d H H' → DS K H' d ns → Q (.str (SX.S l)) H'
section
variable {P : Program} {w : World} {K : PySem.W.Frag} {mg : Str → Option Value} {base : Heap}
theorem ok__law_word {f : Addr} {fd : FuncData} (F : Fun K "_law_word" "_law_word" s__law_word f fd) (B : Blt w K mg) (c__law_draw : WP.Callee P w K mg base CX0 1 "_law_draw" ["draws", "limit"] (sp__law_draw K mg)) : FnOk P w K mg base CX0 2 f fd ["draws"] (sp__law_word K mg) := by
  refine F.ok sc__law_word (fun vs H Q E h => ?_) (fun cdv A outer s H vs Q E hr h => ?_)
  · first | (obtain ⟨_, rfl, _⟩ := h; rfl) | (obtain ⟨_, _, rfl, _⟩ := h; rfl) | (obtain ⟨_, _, _, rfl, _⟩ := h; rfl) | (obtain ⟨_, _, _, _, rfl, _⟩ := h; rfl) | (obtain ⟨_, _, _, _, _, rfl, _⟩ := h; rfl) | (obtain ⟨_, _, _, _, _, _, rfl, _⟩ := h; rfl) | (obtain ⟨_, _, _, _, _, _, _, rfl, _⟩ := h; rfl) | (obtain ⟨_, _, _, _, _, _, _, _, rfl, _⟩ := h; rfl) | (obtain ⟨rfl, _⟩ := h; rfl)
  · obtain ⟨d, ns, rfl, hd, k⟩ := h
    refine ⟨_, (pss_cons (ps_set (i := 1) sc__law_word.nd rfl (Or.inl rfl) (WP.pe_strL [] (by decide +kernel)))
      (pss_cons (ps_for PassesOwn.never rfl (pi_range1 rfl B.b_range (WP.pa_consN (pe_op op_add pe_int (pe_op op_mulW (WP.pe_callC c__law_draw hr rfl pass0 (WP.pa_consN (pv 0) (WP.pa_consN pe_int pa_nil))) (WP.pe_callC c__law_draw hr rfl pass0 (WP.pa_consN (pv 0) (WP.pa_consN pe_int pa_nil))))) pa_nil)) (pg_name (i := 2) sc__law_word.nd rfl (Or.inl rfl)) (pss_cons (ps_set (i := 3) sc__law_word.nd rfl (Or.inl rfl) (WP.pe_strL [97, 98, 99, 100, 101, 102, 103, 104, 105, 106, 107, 108, 109, 110, 111, 112, 113, 114, 115, 116, 117, 118, 119, 120, 121, 122, 65, 66, 67, 68, 69, 70, 71, 72, 73, 74, 75, 76, 77, 78, 79, 80, 81, 82, 83, 84, 85, 86, 87, 88, 89, 90, 48, 49, 50, 51, 52, 53, 54, 55, 56, 57, 33, 34, 35, 36, 38, 40, 41, 42, 43, 44, 45, 46, 47, 58, 59, 60, 61, 62, 63, 64, 91, 92, 93, 94, 95, 124, 123, 125, 126] (by decide +kernel)))
      (pss_one (ps_set (i := 1) sc__law_word.nd rfl (Or.inl rfl) (pe_op WP.op_addS (pv 1) (pe_ix ix_str (pv 3) (WP.pe_callC c__law_draw hr rfl pass0 (WP.pa_consN (pv 0) (WP.pa_consN (pe_callB WP.c_len (by rfl) B.b_len (by decide +kernel) (WP.pa_consN (pv 3) pa_nil)) pa_nil))) (fun _ _ => rfl)))))))
      (pss_one (ps_ret (pv 1))))), ?_⟩
    k_updF
    refine ⟨d, ns, _, rfl, by decide, WP.bt8 (by decide), hd, fun v1 H1 v10 v11 s1 hd1 => ?_⟩
    k_updF
    refine ⟨d, ns, _, rfl, by decide, WP.bt8 (by decide), hd1, fun v2 H2 v20 v21 s2 hd2 => ?_⟩
    k_updF
    refine WP.iC ((WP.bt8 (by omega)).w (WP.bt8 (by omega))) ?_
    obtain ⟨n, hn, n8⟩ : ∃ n : Nat, v1 * v2 = (n : Int) ∧ n ≤ 8 := by
      have h : v1 = 0 ∨ v1 = 1 ∨ v1 = 2 := by omega
      rcases h with rfl | rfl | rfl
      · exact ⟨0, by rw [Int.zero_mul]; rfl, by omega⟩
      · exact ⟨v2.toNat, by rw [Int.one_mul]; omega, by omega⟩
      · exact ⟨2 * v2.toNat, by omega, by omega⟩
    rw [hn]
    k_updF
    refine ⟨_, rfl, by omega, by omega, for_range (lo := 0) (n := _) (fun i σ' H' => WP.Sx d H H' ∧ DS K H' d ns ∧ ∃ (l : List Nat) (z z2 : Option V), σ' = [some (.ref d), some (.str (SX.S l)), z, z2] ∧ l.length = i ∧ ∀ c ∈ l, 33 ≤ c ∧ c ≤ 126 ∧ c ≠ 37 ∧ c ≠ 39)
      ⟨s1.trans s2, hd2, [], none, none, rfl, rfl, fun c h => by cases h⟩ ?_ ?_⟩
    · rintro i σ' H3 hi ⟨s3, hd3, l, z, z2, rfl, hl, ok⟩
      have hMl : MK.MW.length ≤ sizeLine := by rw [sizeLine_eq]; decide
      k_updF
      refine WP.lenS' (l := MK.MW) hMl ?_
      k_updF
      refine ⟨d, ns, _, rfl, by decide, WP.bt8 (by decide), hd3, fun v H4 v0 v1 s4 hd4 => ?_⟩
      obtain ⟨q, hq, hqa⟩ := WP.at_C (l := MK.MW) v0 v1
      refine WP.ixS1 hqa hMl ?_
      refine WP.catS (a := l) (b := [q]) ?_ (by rw [sizeLine_eq]; show _ + 1 ≤ _; omega)
      k_updF
      refine ⟨s3.trans s4, hd4, l ++ [q], _, _, rfl, by rw [List.length_append, hl]; rfl, fun c hc => ?_⟩
      rcases List.mem_append.mp hc with e | e
      · exact ok c e
      · rw [List.mem_singleton.mp e]; exact MK.mw_ok q hq
    rintro σ' H3 ⟨s3, hd3, l, z, z2, rfl, hl, ok⟩
    k_updF
    exact k l H3 (by omega) (by omega) ok s3 hd3
end
abbrev s__law_faulty : Stmt := top 30
abbrev N__law_faulty : List Str := ["draws", "kind", "word"]
theorem sc__law_faulty : FnScope N__law_faulty ["draws"] (defScope s__law_faulty) := ⟨rfl, rfl, rfl, by decide +kernel, rfl, by decide +kernel, by decide +kernel⟩
def sp__law_faulty (K : PySem.W.Frag) (mg : WP.MG) : Sp := fun vs H Q _ => ∃ (d : Addr) (ns : DZ), vs = [.ref d] ∧ DS K H d ns ∧ ∀ (i : Nat) (w : List Nat) (p : Addr) (H' : Hp), i < 7 → WordOk w → WP.Sx d H H' → DS K H' d ns → SqT K H' p [if i < 3 then CHR else QUO, .str (SX.S (piece i w))] → Q (.ref p) H'
section
variable {P : Program} {w : World} {K : PySem.W.Frag} {mg : Str → Option Value} {base : Heap}
theorem ok__law_faulty {f : Addr} {fd : FuncData} (F : Fun K "_law_faulty" "_law_faulty" s__law_faulty f fd) (B : Blt w K mg) (c__law_draw : WP.Callee P w K mg base CX0 1 "_law_draw" ["draws", "limit"] (sp__law_draw K mg)) (c__law_word : WP.Callee P w K mg base CX0 2 "_law_word" ["draws"] (sp__law_word K mg)) : FnOk P w K mg base CX0 3 f fd ["draws"] (sp__law_faulty K mg) := by
  refine F.ok sc__law_faulty (fun vs H Q E h => ?_) (fun cdv A outer s H vs Q E hr h => ?_)
  · first | (obtain ⟨_, rfl, _⟩ := h; rfl) | (obtain ⟨_, _, rfl, _⟩ := h; rfl) | (obtain ⟨_, _, _, rfl, _⟩ := h; rfl) | (obtain ⟨_, _, _, _, rfl, _⟩ := h; rfl) | (obtain ⟨_, _, _, _, _, rfl, _⟩ := h; rfl) | (obtain ⟨_, _, _, _, _, _, rfl, _⟩ := h; rfl) | (obtain ⟨_, _, _, _, _, _, _, rfl, _⟩ := h; rfl) | (obtain ⟨_, _, _, _, _, _, _, _, rfl, _⟩ := h; rfl) | (obtain ⟨rfl, _⟩ := h; rfl)
  · obtain ⟨d, ns, rfl, hd, k⟩ := h
    refine ⟨_, (pss_cons (ps_set (i := 1) sc__law_faulty.nd rfl (Or.inl rfl) (WP.pe_callC c__law_draw hr rfl pass0 (WP.pa_consN (pv 0) (WP.pa_consN pe_int pa_nil))))
      (pss_cons (ps_set (i := 2) sc__law_faulty.nd rfl (Or.inl rfl) (WP.pe_callC c__law_word hr rfl pass0 (WP.pa_consN (pv 0) pa_nil)))
      (pss_cons (ps_if (pt_cmpR op_eq (pv 1) pe_int (nomark _)) (pss_one (ps_ret (pe_tup (WP.pa_consN (WP.pe_strL [99, 104, 97, 114, 97, 99, 116, 101, 114] (by decide +kernel)) (WP.pa_consN (pe_op WP.op_addS (pv 2) (WP.pe_strL [9] (by decide +kernel))) pa_nil))))) pss_nil)
      (pss_cons (ps_if (pt_cmpR op_eq (pv 1) pe_int (nomark _)) (pss_one (ps_ret (pe_tup (WP.pa_consN (WP.pe_strL [99, 104, 97, 114, 97, 99, 116, 101, 114] (by decide +kernel)) (WP.pa_consN (pe_op WP.op_addS (pe_op WP.op_addS (WP.pe_strL [39] (by decide +kernel)) (pv 2)) (WP.pe_strL [9, 39] (by decide +kernel))) pa_nil))))) pss_nil)
      (pss_cons (ps_if (pt_cmpR op_eq (pv 1) pe_int (nomark _)) (pss_one (ps_ret (pe_tup (WP.pa_consN (WP.pe_strL [99, 104, 97, 114, 97, 99, 116, 101, 114] (by decide +kernel)) (WP.pa_consN (WP.pe_strL [9, 32] (by decide +kernel)) pa_nil))))) pss_nil)
      (pss_cons (ps_if (pt_cmpR op_eq (pv 1) pe_int (nomark _)) (pss_one (ps_ret (pe_tup (WP.pa_consN (WP.pe_strL [113, 117, 111, 116, 101] (by decide +kernel)) (WP.pa_consN (pe_op WP.op_addS (pe_op WP.op_addS (WP.pe_strL [39] (by decide +kernel)) (pv 2)) (WP.pe_strL [10] (by decide +kernel))) pa_nil))))) pss_nil)
      (pss_cons (ps_if (pt_cmpR op_eq (pv 1) pe_int (nomark _)) (pss_one (ps_ret (pe_tup (WP.pa_consN (WP.pe_strL [113, 117, 111, 116, 101] (by decide +kernel)) (WP.pa_consN (pe_op WP.op_addS (pe_op WP.op_addS (WP.pe_strL [39] (by decide +kernel)) (pv 2)) (WP.pe_strL [39, 39, 10] (by decide +kernel))) pa_nil))))) pss_nil)
      (pss_cons (ps_if (pt_cmpR op_eq (pv 1) pe_int (nomark _)) (pss_one (ps_ret (pe_tup (WP.pa_consN (WP.pe_strL [113, 117, 111, 116, 101] (by decide +kernel)) (WP.pa_consN (pe_op WP.op_addS (pe_op WP.op_addS (pe_op WP.op_addS (WP.pe_strL [39] (by decide +kernel)) (pv 2)) (WP.pe_strL [39] (by decide +kernel))) (pv 2)) pa_nil))))) pss_nil)
      (pss_one (ps_ret (pe_tup (WP.pa_consN (WP.pe_strL [113, 117, 111, 116, 101] (by decide +kernel)) (WP.pa_consN (pe_op WP.op_addS (pv 2) (WP.pe_strL [39] (by decide +kernel))) pa_nil))))))))))))), ?_⟩
    k_updF
    refine ⟨d, ns, _, rfl, by decide, WP.bt8 (by decide), hd, fun kd H1 k0 k1 s1 hd1 => ?_⟩
    k_updF
    refine ⟨d, ns, rfl, hd1, fun w H2 w1 w9 wok s2 hd2 => ?_⟩
    have out : ∀ (i : Nat) (x : V) (l : List Nat), i < 7 → x = (if i < 3 then CHR else QUO) → l = piece i w → [x, .str (SX.S l)].length ≤ sizeLine ∧ ∀ p, H2 p = none → Q (.ref p) (upd H2 p (.tup [x, .str (SX.S l)])) := fun i x l hi e1 e2 =>
      ⟨WP.sz2, fun p hp => by
        obtain ⟨hd3, nP, s3, gP⟩ := hd2.alloc (o := .tup [x, .str (SX.S l)]) hp
        subst e1 e2
        exact k i w p _ hi ⟨w1, w9, wok⟩ ((s1.trans s2).trans s3) hd3 (SqT.of gP)⟩
    k_updF
    refine WP.br (fun c => ?_) (fun c0 => ?_)
    · k_updF
      refine WP.catS (a := w) (b := [9]) ?_ (by rw [sizeLine_eq]; simp; omega)
      k_updF
      exact out 0 (.str (SX.S [99, 104, 97, 114, 97, 99, 116, 101, 114])) (w ++ [9]) (by omega) rfl rfl
    k_updF
    refine WP.br (fun c => ?_) (fun c1 => ?_)
    · k_updF
      refine WP.catS (a := [39]) (b := w) ?_ (by rw [sizeLine_eq]; simp; omega)
      k_updF
      refine WP.catS (a := ([39] ++ w)) (b := [9, 39]) ?_ (by rw [sizeLine_eq]; simp; omega)
      k_updF
      exact out 1 (.str (SX.S [99, 104, 97, 114, 97, 99, 116, 101, 114])) ([39] ++ w ++ [9, 39]) (by omega) rfl rfl
    k_updF
    refine WP.br (fun c => ?_) (fun c2 => ?_)
    · k_updF
      exact out 2 (.str (SX.S [99, 104, 97, 114, 97, 99, 116, 101, 114])) ([9, 32]) (by omega) rfl rfl
    k_updF
    refine WP.br (fun c => ?_) (fun c3 => ?_)
    · k_updF
      refine WP.catS (a := [39]) (b := w) ?_ (by rw [sizeLine_eq]; simp; omega)
      k_updF
      refine WP.catS (a := ([39] ++ w)) (b := [10]) ?_ (by rw [sizeLine_eq]; simp; omega)
      k_updF
      exact out 3 (.str (SX.S [113, 117, 111, 116, 101])) ([39] ++ w ++ [10]) (by omega) rfl rfl
    k_updF
    refine WP.br (fun c => ?_) (fun c4 => ?_)
    · k_updF
      refine WP.catS (a := [39]) (b := w) ?_ (by rw [sizeLine_eq]; simp; omega)
      k_updF
      refine WP.catS (a := ([39] ++ w)) (b := [39, 39, 10]) ?_ (by rw [sizeLine_eq]; simp; omega)
      k_updF
      exact out 4 (.str (SX.S [113, 117, 111, 116, 101])) ([39] ++ w ++ [39, 39, 10]) (by omega) rfl rfl
    k_updF
    refine WP.br (fun c => ?_) (fun c5 => ?_)
    · k_updF
      refine WP.catS (a := [39]) (b := w) ?_ (by rw [sizeLine_eq]; simp; omega)
      k_updF
      refine WP.catS (a := ([39] ++ w)) (b := [39]) ?_ (by rw [sizeLine_eq]; simp; omega)
      k_updF
      refine WP.catS (a := ([39] ++ w ++ [39])) (b := w) ?_ (by rw [sizeLine_eq]; simp; omega)
      k_updF
      exact out 5 (.str (SX.S [113, 117, 111, 116, 101])) ([39] ++ w ++ [39] ++ w) (by omega) rfl rfl
    k_updF
    refine WP.catS (a := w) (b := [39]) ?_ (by rw [sizeLine_eq]; simp; omega)
    k_updF
    exact out 6 (.str (SX.S [113, 117, 111, 116, 101])) (w ++ [39]) (by omega) rfl rfl
end
abbrev s__law_quoted : Stmt := top 25
abbrev N__law_quoted : List Str := ["string", "written", "mark"]
theorem sc__law_quoted : FnScope N__law_quoted ["string"] (defScope s__law_quoted) := ⟨rfl, rfl, rfl, by decide +kernel, rfl, by decide +kernel, by decide +kernel⟩
def sp__law_quoted (K : PySem.W.Frag) (mg : WP.MG) : Sp := fun vs H Q _ => ∃ (l : List Nat), vs = [.str (SX.S l)] ∧ l.length ≤ 1000 ∧ Q (.str (SX.S (39 :: (MK.dq l ++ [39])))) H
section
variable {P : Program} {w : World} {K : PySem.W.Frag} {mg : Str → Option Value} {base : Heap}
theorem ok__law_quoted {f : Addr} {fd : FuncData} (F : Fun K "_law_quoted" "_law_quoted" s__law_quoted f fd) (B : Blt w K mg)  : FnOk P w K mg base CX0 1 f fd ["string"] (sp__law_quoted K mg) := by
  refine F.ok sc__law_quoted (fun vs H Q E h => ?_) (fun cdv A outer s H vs Q E hr h => ?_)
  · first | (obtain ⟨_, rfl, _⟩ := h; rfl) | (obtain ⟨_, _, rfl, _⟩ := h; rfl) | (obtain ⟨_, _, _, rfl, _⟩ := h; rfl) | (obtain ⟨_, _, _, _, rfl, _⟩ := h; rfl) | (obtain ⟨_, _, _, _, _, rfl, _⟩ := h; rfl) | (obtain ⟨_, _, _, _, _, _, rfl, _⟩ := h; rfl) | (obtain ⟨_, _, _, _, _, _, _, rfl, _⟩ := h; rfl) | (obtain ⟨_, _, _, _, _, _, _, _, rfl, _⟩ := h; rfl) | (obtain ⟨rfl, _⟩ := h; rfl)
  · obtain ⟨l, rfl, hl, k⟩ := h
    refine ⟨_, (pss_cons (ps_set (i := 1) sc__law_quoted.nd rfl (Or.inl rfl) (WP.pe_strL [39] (by decide +kernel)))
      (pss_cons (ps_for PassesOwn.never rfl (pi_str (pv 0)) (pg_name (i := 2) sc__law_quoted.nd rfl (Or.inl rfl)) (pss_cons (ps_set (i := 1) sc__law_quoted.nd rfl (Or.inl rfl) (pe_op WP.op_addS (pv 1) (pv 2)))
      (pss_one (ps_if (pt_cmpR op_eq (pv 2) (WP.pe_strL [39] (by decide +kernel)) (nomark _)) (pss_one (ps_set (i := 1) sc__law_quoted.nd rfl (Or.inl rfl) (pe_op WP.op_addS (pv 1) (WP.pe_strL [39] (by decide +kernel))))) pss_nil))))
      (pss_one (ps_ret (pe_op WP.op_addS (pv 1) (WP.pe_strL [39] (by decide +kernel))))))), ?_⟩
    k_updF
    refine ⟨_, rfl, WP.for_txt (fun i σ' H' => H' = H ∧ ∃ z, σ' = [some (.str (SX.S l)), some (.str (SX.S ([39] ++ MK.dq (l.take i)))), z]) ⟨rfl, none, rfl⟩ ?_ ?_⟩
    · rintro i c σ' H' hc ⟨rfl, z, rfl⟩
      have hi := (List.getElem?_eq_some_iff.mp hc).1
      have hq := MK.dq_len (l.take i)
      rw [List.length_take] at hq
      have e : MK.dq (l.take (i + 1)) = MK.dq (l.take i) ++ MK.dq [c] := by rw [← MK.dq_app, List.take_succ, hc]; rfl
      k_updF
      refine WP.catS (a := [39] ++ MK.dq (l.take i)) (b := [c]) ?_ (by rw [sizeLine_eq, List.length_append]; show 1 + _ + 1 ≤ _; omega)
      k_updF
      refine WP.br (fun h => ?_) (fun h => ?_)
      · have h : c = 39 := by simpa using h
        subst h
        k_updF
        refine WP.catS (a := [39] ++ MK.dq (l.take i) ++ [39]) (b := [39]) ?_ (by rw [sizeLine_eq, List.length_append, List.length_append]; show 1 + _ + 1 + 1 ≤ _; omega)
        k_updF
        refine ⟨rfl, some (.str (SX.S [39])), ?_⟩
        rw [e, show MK.dq [39] = [39] ++ [39] from rfl, ← List.append_assoc, ← List.append_assoc]; rfl
      · have h : c ≠ 39 := by simpa using h
        k_updF
        refine ⟨rfl, some (.str (SX.S [c])), ?_⟩
        rw [e, MK.dq_c h, ← List.append_assoc]; rfl
    rintro σ' H' ⟨rfl, z, rfl⟩
    rw [List.take_length]
    have hq := MK.dq_len l
    k_updF
    refine WP.catS (a := [39] ++ MK.dq l) (b := [39]) ?_ (by rw [sizeLine_eq, List.length_append]; show 1 + _ + 1 ≤ _; omega)
    exact k
end
abbrev s__law_build : Stmt := top 31
abbrev N__law_build : List Str := ["draws", "count", "faulty", "text", "expected", "faults", "k", "line", "reason", "piece", "string", "word"]
theorem sc__law_build : FnScope N__law_build ["draws", "count", "faulty"] (defScope s__law_build) := ⟨rfl, rfl, rfl, by decide +kernel, rfl, by decide +kernel, by decide +kernel⟩
def RSN (k : Nat) : V := if k = 0 then CHR else QUO
/-- faults in a list -/
inductive FtAt (K : PySem.W.Frag) (H : Hp) : List V → List (Nat × Nat) → Prop
  | nil : FtAt K H [] []
  | cons {a : Addr} {xs : List V} {k r : Nat} {fs : List (Nat × Nat)} : H a = some (.tup [.int (k : Int), .int (r : Int), RSN k]) → FtAt K H xs fs → FtAt K H (.ref a :: xs) ((k, r) :: fs)
theorem FtAt.map {K : PySem.W.Frag} {H H' : Hp} (e : ∀ a xs, H a = some (.tup xs) → H' a = some (.tup xs)) {xs : List V} {fs : List (Nat × Nat)} (h : FtAt K H xs fs) : FtAt K H' xs fs := by
  induction h with
  | nil => exact .nil
  | cons h _ ih => exact .cons (e _ _ h) ih
theorem FtAt.len {K : PySem.W.Frag} {H : Hp} {xs : List V} {fs : List (Nat × Nat)} (h : FtAt K H xs fs) : xs.length = fs.length := by
  induction h with
  | nil => rfl
  | cons _ _ ih => rw [List.length_cons, List.length_cons, ih]
theorem FtAt.snoc {K : PySem.W.Frag} {H : Hp} {xs : List V} {fs : List (Nat × Nat)} {a : Addr} {k r : Nat} (h : FtAt K H xs fs) (z : H a = some (.tup [.int (k : Int), .int (r : Int), RSN k])) : FtAt K H (xs ++ [.ref a]) (fs ++ [(k, r)]) := by
  induction h with
  | nil => exact .cons z .nil
  | cons z' _ ih => exact .cons z' ih
/-- expected tokens in a list -/
inductive EtAt (K : PySem.W.Frag) (H : Hp) : List V → List (Nat × Tk) → Prop
  | nil : EtAt K H [] []
  | cons {a : Addr} {xs : List V} {t : Nat × Tk} {ts : List (Nat × Tk)} : H a = some (.tup (t.2.vs (t.1 : Int))) → EtAt K H xs ts → EtAt K H (.ref a :: xs) (t :: ts)
theorem EtAt.map {K : PySem.W.Frag} {H H' : Hp} (e : ∀ a xs, H a = some (.tup xs) → H' a = some (.tup xs)) {xs : List V} {ts : List (Nat × Tk)} (h : EtAt K H xs ts) : EtAt K H' xs ts := by
  induction h with
  | nil => exact .nil
  | cons h _ ih => exact .cons (e _ _ h) ih
theorem EtAt.len {K : PySem.W.Frag} {H : Hp} {xs : List V} {ts : List (Nat × Tk)} (h : EtAt K H xs ts) : xs.length = ts.length := by
  induction h with
  | nil => rfl
  | cons _ _ ih => rw [List.length_cons, List.length_cons, ih]
theorem EtAt.snoc {K : PySem.W.Frag} {H : Hp} {xs : List V} {ts : List (Nat × Tk)} {a : Addr} {t : Nat × Tk} (h : EtAt K H xs ts) (z : H a = some (.tup (t.2.vs (t.1 : Int)))) : EtAt K H (xs ++ [.ref a]) (ts ++ [t]) := by
  induction h with
  | nil => exact .cons z .nil
  | cons z' _ ih => exact .cons z' ih
theorem tup_sx {d : Addr} {H H' : Hp} {ys : List V} (e : WP.Sx d H H') (hd : H d = some (.lst ys)) : ∀ a xs, H a = some (.tup xs) → H' a = some (.tup xs) := fun a xs h => e _ _ (fun z => by rw [z, hd] at h; cases h) h
structure TxOk (P : List Pc) (n : Nat) : Prop where
  ok : ∀ x ∈ P, x.Ok
  adj : Adj P
  len : (rend P).length ≤ n
  st : ∀ q, Pc.st q ∈ P → q.length ≤ 60
def gH (H : Hp) : V → Int × Int × Str
  | .ref t => match H t with
    | some (.tup [.int k, .int r, .str z]) => (k, r, z)
    | _ => (0, 0, SX.S [])
  | _ => (0, 0, SX.S [])
theorem rsn_str (k : Nat) : ∃ z, RSN k = .str z := by
  unfold RSN
  split
  · exact ⟨_, rfl⟩
  · exact ⟨_, rfl⟩
theorem gH_at {H : Hp} {a : Addr} {k r : Nat} {z : Str} (e : RSN k = .str z) (h : H a = some (.tup [.int (k : Int), .int (r : Int), RSN k])) : gH H (.ref a) = ((k : Int), (r : Int), z) := by
  rw [e] at h
  show (match H a with | some (.tup [.int k, .int r, .str z]) => (k, r, z) | _ => _) = _
  rw [h]
theorem FtAt.mem {K : PySem.W.Frag} {H : Hp} {xs : List V} {fs : List (Nat × Nat)} (h : FtAt K H xs fs) : (∀ x ∈ xs, ∃ a k r, x = .ref a ∧ (k, r) ∈ fs ∧ H a = some (.tup [.int (k : Int), .int (r : Int), RSN k])) ∧ ∀ f ∈ fs, ∃ a, .ref a ∈ xs ∧ H a = some (.tup [.int (f.1 : Int), .int (f.2 : Int), RSN f.1]) := by
  induction h with
  | nil => exact ⟨fun _ h => (by cases h), fun _ h => (by cases h)⟩
  | cons z _ ih =>
    refine ⟨fun x hx => ?_, fun f hf => ?_⟩
    · rcases List.mem_cons.mp hx with e | hx
      · exact ⟨_, _, _, e, List.mem_cons_self, z⟩
      · obtain ⟨a, k, r, e, hm, hz⟩ := ih.1 x hx
        exact ⟨a, k, r, e, List.mem_cons_of_mem _ hm, hz⟩
    · rcases List.mem_cons.mp hf with e | hf
      · rw [e]; exact ⟨_, List.mem_cons_self, z⟩
      · obtain ⟨a, hm, hz⟩ := ih.2 f hf
        exact ⟨a, List.mem_cons_of_mem _ hm, hz⟩
structure NB (H : Hp) (d : Addr) (ns : DZ) (p E F : Addr) : Prop where
  pd : p ≠ d
  ed : E ≠ d ∧ E ≠ ns.1
  fd : F ≠ d ∧ F ≠ ns.1
  ef : E ≠ F
  pe : p ≠ E
  pf : p ≠ F
  e0 : H E = none
  f0 : H F = none
structure BS (K : PySem.W.Frag) (H : Hp) (d : Addr) (ns : DZ) (p E F : Addr) (fs : List Nat) (G : Hp) (es : List V) (ex : List (Nat × Tk)) (fx : List V) (fl : List (Nat × Nat)) : Prop where
  sx : WP.Sx d H G
  ds : DS K G d ns
  gp : G p = some (.lst (WP.iL fs))
  gE : G E = some (.lst es)
  eE : EtAt K G es ex
  gF : G F = some (.lst fx)
  fF : FtAt K G fx fl
section
variable {K : PySem.W.Frag} {H G G' : Hp} {d p E F a : Addr} {ns : DZ} {fs : List Nat} {es fx : List V} {ex : List (Nat × Tk)} {fl : List (Nat × Nat)}
theorem BS.draw (n : NB H d ns p E F) (h : BS K H d ns p E F fs G es ex fx fl) (s : WP.Sx d G G') (D : DS K G' d ns) : BS K H d ns p E F fs G' es ex fx fl := by
  obtain ⟨yd, hyd⟩ := h.ds.lst
  exact ⟨h.sx.trans s, D, s _ _ n.pd h.gp, s _ _ n.ed.1 h.gE, h.eE.map (tup_sx s hyd), s _ _ n.fd.1 h.gF, h.fF.map (tup_sx s hyd)⟩
theorem BS.same (h : BS K H d ns p E F fs G es ex fx fl) (e : Same G G') : BS K H d ns p E F fs G' es ex fx fl :=
  ⟨h.sx.trans (.of e), h.ds.same e, e _ _ h.gp, e _ _ h.gE, h.eE.map fun _ _ z => e _ _ z, e _ _ h.gF, h.fF.map fun _ _ z => e _ _ z⟩
theorem BS.addE (n : NB H d ns p E F) (h : BS K H d ns p E F fs G es ex fx fl) {t : Nat × Tk} (z : G a = some (.tup (t.2.vs (t.1 : Int)))) : BS K H d ns p E F fs (upd G E (.lst (es ++ [.ref a]))) (es ++ [.ref a]) (ex ++ [t]) fx fl :=
  ⟨sx_mut h.sx n.e0, h.ds.mut n.ed, by rw [upd_ne n.pe]; exact h.gp, upd_same, (h.eE.snoc z).map (tup_sx WP.Sx.upd h.gE), by rw [upd_ne (Ne.symm n.ef)]; exact h.gF, h.fF.map (tup_sx WP.Sx.upd h.gE)⟩
theorem BS.addF (n : NB H d ns p E F) (h : BS K H d ns p E F fs G es ex fx fl) {k r : Nat} (z : G a = some (.tup [.int (k : Int), .int (r : Int), RSN k])) : BS K H d ns p E F fs (upd G F (.lst (fx ++ [.ref a]))) es ex (fx ++ [.ref a]) (fl ++ [(k, r)]) :=
  ⟨sx_mut h.sx n.f0, h.ds.mut n.fd, by rw [upd_ne n.pf]; exact h.gp, by rw [upd_ne n.ef]; exact h.gE, h.eE.map (tup_sx WP.Sx.upd h.gF), upd_same, (h.fF.snoc z).map (tup_sx WP.Sx.upd h.gF)⟩
end
theorem TxOk.snoc {P : List Pc} {n m : Nat} (t : TxOk P n) (en : EndSp P) {x : Pc} (ox : x.Ok) (hs : ∀ q, x = .st q → q.length ≤ 60) (hm : n + 130 ≤ m) : TxOk (P ++ [x]) m := by
  refine ⟨fun y hy => ?_, adj_app P [x] t.adj ⟨.inr fun y hy => (by cases hy), True.intro⟩ (.inl en), ?_, fun q hq => ?_⟩
  · rcases List.mem_append.mp hy with hy | hy
    · exact t.ok y hy
    · rw [List.mem_singleton.mp hy]; exact ox
  · have h1 := ren_len ox hs
    have h2 := t.len
    rw [rend_app, List.length_append]
    show _ + (x.ren ++ []).length ≤ _
    rw [List.append_nil]; omega
  · rcases List.mem_append.mp hq with hq | hq
    · exact t.st q hq
    · exact hs q (List.mem_singleton.mp hq).symm
theorem TxOk.spaces {P : List Pc} {n m : Nat} (t : TxOk P n) {l : List Nat} (hl : ∀ c ∈ l, c = 32 ∨ c = 10) (hm : n + l.length ≤ m) : TxOk (P ++ spc l) m := by
  refine ⟨fun y hy => ?_, adj_app P _ t.adj (adj_spc l) (.inr head_spc), ?_, fun q hq => ?_⟩
  · rcases List.mem_append.mp hy with hy | hy
    · exact t.ok y hy
    · exact ok_spc hl y hy
  · have := t.len
    rw [rend_app, rend_spc, List.length_append]; omega
  · rcases List.mem_append.mp hq with hq | hq
    · exact t.st q hq
    · obtain ⟨c, _, e⟩ := List.mem_map.mp hq
      cases e
def sp__law_build (K : PySem.W.Frag) (mg : WP.MG) : Sp := fun vs H Q _ => ∃ (d : Addr) (ns : DZ) (cnt : Nat) (p : Addr) (fs : List Nat), vs = [.ref d, .int (cnt : Int), .ref p] ∧ cnt ≤ 24 ∧ H p = some (.lst (WP.iL fs)) ∧ p ≠ d ∧ DS K H d ns ∧
  ∀ (P : List Pc) (t E F : Addr) (es ys : List V) (H' : Hp), WP.Sx d H H' → DS K H' d ns → TxOk P 4000 → (exps 1 P).length ≤ 24 → E ≠ d → F ≠ d → SqT K H' t [.str (SX.S (rend P)), .ref E, .ref F] → H' E = some (.lst es) → EtAt K H' es (exps 1 P) → H' F = some (.lst ys) → ys.length = (flts 1 P).length →
    (∀ y0, ys[0]? = some y0 → ∃ a k r, y0 = .ref a ∧ (k, r) ∈ flts 1 P ∧ H' a = some (.tup [.int (k : Int), .int (r : Int), RSN k]) ∧ ∀ g ∈ flts 1 P, k < g.1 ∨ (k = g.1 ∧ r ≤ g.2)) → Q (.ref t) H'
section
variable {P : Program} {w : World} {K : PySem.W.Frag} {mg : Str → Option Value} {base : Heap}
theorem ok__law_build {f : Addr} {fd : FuncData} (F : Fun K "_law_build" "_law_build" s__law_build f fd) (B : Blt w K mg) (c__law_space : WP.Callee P w K mg base CX0 2 "_law_space" ["draws", "least", "most"] (sp__law_space K mg)) (c__law_lines : WP.Callee P w K mg base CX0 1 "_law_lines" ["text"] (sp__law_lines K mg)) (c__law_faulty : WP.Callee P w K mg base CX0 3 "_law_faulty" ["draws"] (sp__law_faulty K mg)) (c__law_draw : WP.Callee P w K mg base CX0 1 "_law_draw" ["draws", "limit"] (sp__law_draw K mg)) (c__law_characters : WP.Callee P w K mg base CX0 2 "_law_characters" ["draws", "most"] (sp__law_characters K mg)) (c__law_word : WP.Callee P w K mg base CX0 2 "_law_word" ["draws"] (sp__law_word K mg)) (c__law_quoted : WP.Callee P w K mg base CX0 1 "_law_quoted" ["string"] (sp__law_quoted K mg)) : FnOk P w K mg base CX0 4 f fd ["draws", "count", "faulty"] (sp__law_build K mg) := by
  refine F.ok sc__law_build (fun vs H Q E h => ?_) (fun cdv A outer s H vs Q E hr h => ?_)
  · first | (obtain ⟨_, rfl, _⟩ := h; rfl) | (obtain ⟨_, _, rfl, _⟩ := h; rfl) | (obtain ⟨_, _, _, rfl, _⟩ := h; rfl) | (obtain ⟨_, _, _, _, rfl, _⟩ := h; rfl) | (obtain ⟨_, _, _, _, _, rfl, _⟩ := h; rfl) | (obtain ⟨_, _, _, _, _, _, rfl, _⟩ := h; rfl) | (obtain ⟨_, _, _, _, _, _, _, rfl, _⟩ := h; rfl) | (obtain ⟨_, _, _, _, _, _, _, _, rfl, _⟩ := h; rfl) | (obtain ⟨rfl, _⟩ := h; rfl)
  · obtain ⟨d, ns, cnt, p, fs, rfl, hcn, hp, npd, hd, k⟩ := h
    refine ⟨_, (pss_cons (ps_set (i := 3) sc__law_build.nd rfl (Or.inl rfl) (WP.pe_callC c__law_space hr rfl pass0 (WP.pa_consN (pv 0) (WP.pa_consN pe_int (WP.pa_consN pe_int pa_nil)))))
      (pss_cons (ps_set (i := 4) sc__law_build.nd rfl (Or.inl rfl) (pe_lst pa_nil))
      (pss_cons (ps_set (i := 5) sc__law_build.nd rfl (Or.inl rfl) (pe_lst pa_nil))
      (pss_cons (ps_for PassesOwn.never rfl (pi_range1 rfl B.b_range (WP.pa_consN (pv 1) pa_nil)) (pg_name (i := 6) sc__law_build.nd rfl (Or.inl rfl)) (pss_cons (ps_set (i := 7) sc__law_build.nd rfl (Or.inl rfl) (pe_op op_add pe_int (WP.pe_callC c__law_lines hr rfl pass0 (WP.pa_consN (pv 3) pa_nil))))
      (Evl.pss_cut (ps_if (pt_cmpR op_in_seq (pv 6) (pv 2) rfl) (pss_cons (ps_asg (WP.pe_callC c__law_faulty hr rfl pass0 (WP.pa_consN (pv 0) pa_nil)) (pg_tup (by rfl) (pgs_cons (pg_name (i := 8) sc__law_build.nd rfl (Or.inl rfl)) (pgs_cons (pg_name (i := 9) sc__law_build.nd rfl (Or.inl rfl)) pgs_nil))))
      (pss_cons (ps_expr (pe_bm PySem.F.plainAttrs_list PySem.F.slot_list_append PySem.F.type_list_append mt_append (pv 5) (WP.pa_consN (pe_tup (WP.pa_consN (pe_bm PySem.F.plainAttrs_list PySem.F.slot_list_index PySem.F.type_list_index mt_index (pe_lst (WP.pa_consN (WP.pe_strL [99, 104, 97, 114, 97, 99, 116, 101, 114] (by decide +kernel)) (WP.pa_consN (WP.pe_strL [113, 117, 111, 116, 101] (by decide +kernel)) pa_nil))) (WP.pa_consN (pv 8) pa_nil)) (WP.pa_consN (pv 7) (WP.pa_consN (pv 8) pa_nil)))) pa_nil)))
      (pss_one (ps_set (i := 3) sc__law_build.nd rfl (Or.inl rfl) (pe_op WP.op_addS (pv 3) (pv 9)))))) (pss_one (ps_if (pt_cmpR op_eq (WP.pe_callC c__law_draw hr rfl pass0 (WP.pa_consN (pv 0) (WP.pa_consN pe_int pa_nil))) pe_int (nomark _)) (pss_cons (ps_set (i := 10) sc__law_build.nd rfl (Or.inl rfl) (WP.pe_callC c__law_characters hr rfl pass0 (WP.pa_consN (pv 0) (WP.pa_consN pe_int pa_nil))))
      (pss_cons (ps_expr (pe_bm PySem.F.plainAttrs_list PySem.F.slot_list_append PySem.F.type_list_append mt_append (pv 4) (WP.pa_consN (pe_tup (WP.pa_consN (pv 7) (WP.pa_consN (WP.pe_strL [115, 116, 114, 105, 110, 103] (by decide +kernel)) (WP.pa_consN (pv 10) pa_nil)))) pa_nil)))
      (pss_one (ps_set (i := 3) sc__law_build.nd rfl (Or.inl rfl) (pe_op WP.op_addS (pv 3) (WP.pe_callC c__law_quoted hr rfl pass0 (WP.pa_consN (pv 10) pa_nil))))))) (pss_cons (ps_set (i := 11) sc__law_build.nd rfl (Or.inl rfl) (WP.pe_callC c__law_word hr rfl pass0 (WP.pa_consN (pv 0) pa_nil)))
      (pss_cons (ps_expr (pe_bm PySem.F.plainAttrs_list PySem.F.slot_list_append PySem.F.type_list_append mt_append (pv 4) (WP.pa_consN (pe_tup (WP.pa_consN (pv 7) (WP.pa_consN (WP.pe_strL [119, 111, 114, 100] (by decide +kernel)) (WP.pa_consN (pv 11) pa_nil)))) pa_nil)))
      (pss_one (ps_set (i := 3) sc__law_build.nd rfl (Or.inl rfl) (pe_op WP.op_addS (pv 3) (pv 11)))))))))
      (pss_one (ps_if (pt_cmpR op_lt (pv 6) (pe_op op_sub (pv 1) pe_int) (nomark _)) (pss_one (ps_set (i := 3) sc__law_build.nd rfl (Or.inl rfl) (pe_op WP.op_addS (pv 3) (WP.pe_callC c__law_space hr rfl pass0 (WP.pa_consN (pv 0) (WP.pa_consN pe_int (WP.pa_consN pe_int pa_nil))))))) pss_nil)))))
      (pss_one (ps_ret (pe_tup (WP.pa_consN (pe_op WP.op_addS (pv 3) (WP.pe_callC c__law_space hr rfl pass0 (WP.pa_consN (pv 0) (WP.pa_consN pe_int (WP.pa_consN pe_int pa_nil))))) (WP.pa_consN (pv 4) (WP.pa_consN (pe_callB WP.cr_sortF (by rfl) B.b_sorted (by decide +kernel) (WP.pa_consN (pv 5) pa_nil)) pa_nil)))))))))), ?_⟩
    k_updF
    refine ⟨d, ns, 0, 2, rfl, by decide, by decide, hd, fun l0 H1 _ l02 l0c s1 hd1 => ?_⟩
    have hp1 := s1 _ _ npd hp
    k_updF
    refine ⟨Nat.zero_le _, fun E hE => ?_⟩
    have nE := hd1.new hE
    have hE0 : H E = none := sx_free s1 nE.1 hE
    have eE := WP.same_new (o := .lst []) hE
    obtain ⟨hd2, _, s2, gE⟩ := hd1.alloc (o := .lst []) hE
    have s2 := s1.trans s2
    have hp2 := eE _ _ hp1
    generalize upd H1 E _ = H2 at hd2 s2 gE hp2 ⊢
    k_updF
    refine ⟨Nat.zero_le _, fun F hF => ?_⟩
    have nF := hd2.new hF
    have nEF : E ≠ F := ne_of_none gE hF
    have hF0 : H F = none := sx_free s2 nF.1 hF
    have eF := WP.same_new (o := .lst []) hF
    obtain ⟨hd3, _, s3, gF⟩ := hd2.alloc (o := .lst []) hF
    have s3 := s2.trans s3
    have gE := eF _ _ gE
    have hp3 := eF _ _ hp2
    have npF : p ≠ F := ne_of_none hp2 hF
    generalize upd H2 F _ = H3 at hd3 s3 gE gF hp3 ⊢
    have npE : p ≠ E := fun z => by rw [z] at hp; rw [hE0] at hp; cases hp
    k_updF
    have t0 : TxOk (spc l0) 150 := ⟨ok_spc l0c, adj_spc l0, by rw [rend_spc]; omega, fun q hq => by obtain ⟨c, _, e⟩ := List.mem_map.mp hq; cases e⟩
    have en0 : EndSp (spc l0) := by
      by_cases c : l0 = []
      · rw [c]; intro x hx; cases hx
      · exact end_spc (P := []) c
    have tx : rend (spc l0) = l0 := rend_spc l0
    have ex0 : exps 1 (spc l0) = [] := exps_spc 1 l0
    have fl0 : flts 1 (spc l0) = [] := flts_spc 1 l0
    rw [← tx]
    generalize spc l0 = P0 at t0 en0 ex0 fl0
    have n : NB H d ns p E F := ⟨npd, nE, nF, nEF, npE, npF, hE0, hF0⟩
    have B0 : BS K H d ns p E F fs H3 [] (exps 1 P0) [] (flts 1 P0) := ⟨s3, hd3, hp3, gE, by rw [ex0]; exact .nil, gF, by rw [fl0]; exact .nil⟩
    clear s3 hd3 hp3 gE gF s2 hd2 hp2 s1 hd1 hp1
    refine ⟨_, rfl, by omega, by omega, for_range (lo := 0) (n := _) (fun i σ' H' => ∃ (P : List Pc) (es fx : List V) (z6 z7 z8 z9 z10 z11 : Option V), σ' = [some (.ref d), some (.int (cnt : Int)), some (.ref p), some (.str (SX.S (rend P))), some (.ref E), some (.ref F), z6, z7, z8, z9, z10, z11] ∧
      BS K H d ns p E F fs H' es (exps 1 P) fx (flts 1 P) ∧ TxOk P (150 * (i + 1)) ∧ (i < cnt → EndSp P) ∧ (exps 1 P).length ≤ i) ⟨P0, [], [], none, none, none, none, none, none, rfl, B0, t0, fun _ => en0, by rw [ex0]; exact Nat.le_refl _⟩ ?_ ?_⟩
    · rintro i σ' H4 hi ⟨P, es, fx, z6, z7, z8, z9, z10, z11, rfl, b, t, en, xl⟩
      rw [Int.toNat_natCast] at hi
      rw [Int.zero_add]
      have en := en hi
      have tl := t.len
      have tl2 : 150 * (i + 1) ≤ 150 * 24 := by omega
      have hns := nls_cnt P t.ok
      have hxl := ex_len 1 P t.ok
      k_updF
      refine ⟨rend P, rfl, by omega, fun H5 e5 => ?_⟩
      rw [hns]
      have b := b.same e5
      k_updF
      rw [show (1 : Int) + (nls P : Int) = ((1 + nls P : Nat) : Int) by omega]
      refine WP.cut (fun σ' H' => ∃ (x : Pc) (es fx : List V) (z8 z9 z10 z11 : Option V), σ' = [some (.ref d), some (.int (cnt : Int)), some (.ref p), some (.str (SX.S (rend (P ++ [x])))), some (.ref E), some (.ref F), some (.int (i : Int)), some (.int ((1 + nls P : Nat) : Int)), z8, z9, z10, z11] ∧
        BS K H d ns p E F fs H' es (exps 1 (P ++ [x])) fx (flts 1 (P ++ [x])) ∧ TxOk (P ++ [x]) (150 * (i + 1) + 130) ∧ (exps 1 (P ++ [x])).length ≤ i + 1) ?_ ?_
      · k_updF
        refine WP.inNL (SqL.of b.gp) ?_
        k_updF
        refine WP.br (fun c => ?_) (fun c => ?_)
        · k_updF
          refine ⟨d, ns, rfl, b.ds, fun j w T H6 hj hw s6 d6 hT => ?_⟩
          have b := b.draw n s6 d6
          k_updF
          refine WP.unT hT rfl ?_
          k_updF
          refine WP.tyL (SqL.of b.gF) ?_
          k_updF
          refine ⟨WP.sz (show 2 ≤ 1000000 by decide), fun p3 hp3 => ?_⟩
          generalize hG : upd H6 p3 _ = H7
          have e7 : Same H6 H7 := hG ▸ WP.same_new hp3
          have g3 : H7 p3 = some (.lst [CHR, QUO]) := by rw [← hG]; exact upd_same
          clear hG
          refine WP.tyL (SqL.of g3) ?_
          have b := b.same e7
          have okx : Pc.Ok (.bd j w) := ⟨hj, hw⟩
          have tx := t.snoc (m := 150 * (i + 1) + 130) en okx (fun q e => nomatch e) (Nat.le_refl _)
          have er : rend (P ++ [.bd j w]) = rend P ++ piece j w := by rw [rend_app]; show _ ++ (piece j w ++ []) = _; rw [List.append_nil]
          have tn := tx.len
          rw [er, List.length_append] at tn
          have exq : exps 1 (P ++ [.bd j w]) = exps 1 P := by rw [exps_app]; show _ ++ [] = _; rw [List.append_nil]
          have flq : flts 1 (P ++ [.bd j w]) = flts 1 P ++ [((if j < 3 then 0 else 1), 1 + nls P)] := by rw [flts_app]; rfl
          have hx : ∀ (kk : Nat), kk = (if j < 3 then 0 else 1) → RSN kk = (if j < 3 then CHR else QUO) := fun kk e => by
            rw [e]; unfold RSN
            by_cases c3 : j < 3
            · rw [if_pos c3, if_pos c3]; rfl
            · rw [if_neg c3, if_neg c3]; rfl
          have hidx : ∀ (QQ : VK), QQ (.int (((if j < 3 then 0 else 1 : Nat)) : Int)) H7 → rIndex K (.ref p3) [if j < 3 then CHR else QUO] H7 QQ := fun QQ hq => by
            by_cases c3 : j < 3
            · rw [if_pos c3] at hq ⊢
              exact ⟨p3, _, _, 0, CHR, rfl, rfl, SqL.of g3, rfl, rfl, rfl, by decide +kernel, fun m z' h => absurd h (Nat.not_lt_zero _), hq⟩
            · rw [if_neg c3] at hq ⊢
              refine ⟨p3, _, _, 1, QUO, rfl, rfl, SqL.of g3, rfl, rfl, rfl, by decide +kernel, fun m z' h hz => ?_, hq⟩
              have : m = 0 := by omega
              subst this
              cases hz
              decide +kernel
          k_updF
          refine hidx _ ?_
          have hxk := hx _ rfl
          generalize (if j < 3 then 0 else 1 : Nat) = kk at flq hxk ⊢
          rw [← hxk]
          clear hx hidx hxk
          k_updF
          refine ⟨WP.sz (show 3 ≤ 1000000 by decide), fun p4 hp4 => ?_⟩
          generalize hG : upd H7 p4 _ = H8
          have e8 : Same H7 H8 := hG ▸ WP.same_new hp4
          have g4 : H8 p4 = some (.tup [.int (kk : Int), .int ((1 + nls P : Nat) : Int), RSN kk]) := by rw [← hG]; exact upd_same
          clear hG
          have b := b.same e8
          k_updF
          refine WP.appL b.gF (by rw [b.fF.len, sizeLine_eq]; omega) ?_
          have b := b.addF n g4
          generalize upd H8 F _ = H9 at b ⊢
          k_updF
          refine WP.catS (a := rend P) (b := piece j w) ?_ (by rw [sizeLine_eq]; omega)
          k_updF
          exact ⟨.bd j w, _, _, _, _, _, _, by rw [er]; rfl, by rw [exq, flq]; exact b, tx, by rw [exq]; omega⟩
        · k_updF
          refine ⟨d, ns, _, rfl, by decide, WP.bt8 (by decide), b.ds, fun v H6 v0 v1 s6 d6 => ?_⟩
          have b := b.draw n s6 d6
          k_updF
          refine WP.br (fun c2 => ?_) (fun c2 => ?_)
          · k_updF
            refine ⟨d, ns, 60, rfl, by decide, b.ds, fun q H7 hq hqc s7 d7 => ?_⟩
            have b := b.draw n s7 d7
            have okx : Pc.Ok (.st q) := hqc
            have tx := t.snoc (m := 150 * (i + 1) + 130) en okx (fun q' e => by cases e; exact hq) (Nat.le_refl _)
            have er : rend (P ++ [.st q]) = rend P ++ (39 :: (MK.dq q ++ [39])) := by rw [rend_app]; show _ ++ ((39 :: (MK.dq q ++ [39])) ++ []) = _; rw [List.append_nil]
            have tn := tx.len
            rw [er, List.length_append] at tn
            have exq : exps 1 (P ++ [.st q]) = exps 1 P ++ [(1 + nls P, (true, q))] := by rw [exps_app]; rfl
            have flq : flts 1 (P ++ [.st q]) = flts 1 P := by rw [flts_app]; show _ ++ [] = _; rw [List.append_nil]
            k_updF
            refine WP.tyL (SqL.of b.gE) ?_
            k_updF
            refine ⟨WP.sz (show 3 ≤ 1000000 by decide), fun p4 hp4 => ?_⟩
            generalize hG : upd H7 p4 _ = H8
            have e8 : Same H7 H8 := hG ▸ WP.same_new hp4
            have g4 : H8 p4 = some (.tup (Tk.vs ((1 + nls P : Nat) : Int) (true, q))) := by rw [← hG]; exact upd_same
            clear hG
            have b := b.same e8
            k_updF
            refine WP.appL b.gE (by rw [b.eE.len, sizeLine_eq]; omega) ?_
            have b := b.addE n (t := (1 + nls P, (true, q))) g4
            generalize upd H8 E _ = H9 at b ⊢
            k_updF
            refine ⟨q, rfl, by omega, ?_⟩
            refine WP.catS (a := rend P) (b := 39 :: (MK.dq q ++ [39])) ?_ (by rw [sizeLine_eq]; omega)
            k_updF
            exact ⟨.st q, _, _, _, _, _, _, by rw [er]; rfl, by rw [exq, flq]; exact b, tx, by rw [exq, List.length_append, List.length_singleton]; omega⟩
          · k_updF
            refine ⟨d, ns, rfl, b.ds, fun w H7 w1 w9 wc s7 d7 => ?_⟩
            have b := b.draw n s7 d7
            have okx : Pc.Ok (.wd w) := ⟨w1, w9, wc⟩
            have tx := t.snoc (m := 150 * (i + 1) + 130) en okx (fun q' e => nomatch e) (Nat.le_refl _)
            have er : rend (P ++ [.wd w]) = rend P ++ w := by rw [rend_app]; show _ ++ (w ++ []) = _; rw [List.append_nil]
            have tn := tx.len
            rw [er, List.length_append] at tn
            have exq : exps 1 (P ++ [.wd w]) = exps 1 P ++ [(1 + nls P, (false, w))] := by rw [exps_app]; rfl
            have flq : flts 1 (P ++ [.wd w]) = flts 1 P := by rw [flts_app]; show _ ++ [] = _; rw [List.append_nil]
            k_updF
            refine WP.tyL (SqL.of b.gE) ?_
            k_updF
            refine ⟨WP.sz (show 3 ≤ 1000000 by decide), fun p4 hp4 => ?_⟩
            generalize hG : upd H7 p4 _ = H8
            have e8 : Same H7 H8 := hG ▸ WP.same_new hp4
            have g4 : H8 p4 = some (.tup (Tk.vs ((1 + nls P : Nat) : Int) (false, w))) := by rw [← hG]; exact upd_same
            clear hG
            have b := b.same e8
            k_updF
            refine WP.appL b.gE (by rw [b.eE.len, sizeLine_eq]; omega) ?_
            have b := b.addE n (t := (1 + nls P, (false, w))) g4
            generalize upd H8 E _ = H9 at b ⊢
            k_updF
            refine WP.catS (a := rend P) (b := w) ?_ (by rw [sizeLine_eq]; omega)
            k_updF
            exact ⟨.wd w, _, _, _, _, _, _, by rw [er]; rfl, by rw [exq, flq]; exact b, tx, by rw [exq, List.length_append, List.length_singleton]; omega⟩
      clear xl
      rintro σ' H6 ⟨x, es, fx, z8, z9, z10, z11, rfl, b, t, xl⟩
      generalize P ++ [x] = P at b t xl ⊢
      k_updF
      refine WP.br (fun c => ?_) (fun c => ?_)
      · k_updF
        refine ⟨d, ns, 1, 3, rfl, by decide, by decide, b.ds, fun l H7 l1 l3 lc s7 d7 => ?_⟩
        have b := b.draw n s7 d7
        have tl := t.len
        refine WP.catS (a := rend P) (b := l) ?_ (by rw [sizeLine_eq]; omega)
        k_updF
        exact ⟨P ++ spc l, es, fx, _, _, _, _, _, _, by rw [rend_app, rend_spc]; rfl, by rw [exps_snocS, flts_snocS]; exact b, t.spaces lc (by omega), fun _ => end_spc (fun e => by rw [e] at l1; exact absurd l1 (by decide)), by rw [exps_snocS]; exact xl⟩
      · k_updF
        exact ⟨P, es, fx, _, _, _, _, _, _, rfl, b, ⟨t.ok, t.adj, by have := t.len; omega, t.st⟩, fun h => absurd (show (i : Int) < (cnt : Int) - 1 by omega) c, xl⟩
    rintro σ' H4 ⟨P, es, fx, z6, z7, z8, z9, z10, z11, rfl, b, t, _, xl⟩
    rw [Int.toNat_natCast] at t xl
    k_updF
    refine ⟨d, ns, 0, 2, rfl, by decide, by decide, b.ds, fun l H5 _ l2 lc s5 d5 => ?_⟩
    have b := b.draw n s5 d5
    have t := t.spaces (m := 4000) lc (by omega)
    have tn := t.len
    rw [← exps_snocS 1 P l, ← flts_snocS 1 P l] at b
    rw [← exps_snocS 1 P l] at xl
    rw [rend_app, rend_spc, List.length_append] at tn
    refine WP.catS (a := rend P) (b := l) ?_ (by rw [sizeLine_eq]; omega)
    have er : rend P ++ l = rend (P ++ spc l) := by rw [rend_app, rend_spc]
    rw [er]
    generalize P ++ spc l = P at b t xl
    k_updF
    obtain ⟨m1, m2⟩ := b.fF.mem
    refine ⟨F, fx, gH H5, rfl, SqL.of b.gF, fun x hx => ?_, fun ys pp pm hmin hpp => ?_⟩
    · obtain ⟨a, kk, r, rfl, _, hz⟩ := m1 x hx
      obtain ⟨z, ez⟩ := rsn_str kk
      rw [gH_at ez hz]
      exact ⟨a, rfl, by rw [← ez]; exact hz⟩
    have hmn : ∀ y0, ys[0]? = some y0 → ∃ a k r, y0 = .ref a ∧ (k, r) ∈ flts 1 P ∧ H5 a = some (.tup [.int (k : Int), .int (r : Int), RSN k]) ∧ ∀ g ∈ flts 1 P, k < g.1 ∨ (k = g.1 ∧ r ≤ g.2) := fun y0 hy0 => by
      obtain ⟨a, kk, r, rfl, hm, hz⟩ := m1 y0 (pm.mem_iff.mp (List.mem_of_getElem? hy0))
      refine ⟨a, kk, r, rfl, hm, hz, fun g hg => ?_⟩
      obtain ⟨a2, hm2, hz2⟩ := m2 g hg
      have := hmin _ hy0 _ hm2
      obtain ⟨z, ez⟩ := rsn_str kk
      obtain ⟨z2, ez2⟩ := rsn_str g.1
      rw [gH_at ez hz, gH_at ez2 hz2] at this
      rcases this with h | ⟨h1, h2⟩
      · exact .inl (Int.ofNat_lt.mp h)
      · exact .inr ⟨Int.ofNat.inj h1, Int.ofNat_le.mp h2⟩
    have npp := (b.ds.new hpp).1
    generalize hG : upd H5 pp _ = H6
    have e6 : Same H5 H6 := hG ▸ WP.same_new hpp
    have g6 : H6 pp = some (.lst ys) := by rw [← hG]; exact upd_same
    clear hG hmin
    have b := b.same e6
    k_updF
    refine ⟨WP.sz (show 3 ≤ 1000000 by decide), fun T hT => ?_⟩
    have e7 := WP.same_new (o := .tup [.str (SX.S (rend P)), .ref E, .ref pp]) hT
    have b := b.same e7
    refine k P T E pp es ys _ b.sx b.ds t (by omega) n.ed.1 npp (SqT.of upd_same) b.gE b.eE (e7 _ _ g6) (by rw [pm.length_eq, b.fF.len]) (fun y0 hy0 => ?_)
    obtain ⟨a, kk, r, h1, h2, h3, h4⟩ := hmn y0 hy0
    exact ⟨a, kk, r, h1, h2, e7 _ _ (e6 _ _ h3), h4⟩
end
abbrev s_BadProgram___init__ : Stmt := inClass (top 5) 0
abbrev N_BadProgram___init__ : List Str := ["self", "line", "reason"]
theorem sc_BadProgram___init__ : FnScope N_BadProgram___init__ ["self", "line", "reason"] (defScope s_BadProgram___init__) := ⟨rfl, rfl, rfl, by decide +kernel, rfl, by decide +kernel, by decide +kernel⟩
/-- the exception at d: its line and its reason -/
def BPf (x y : V) : List (Str × V) := [("reason", y), ("line", x)]
def sp_BadProgram___init__ (K : PySem.W.Frag) (mg : WP.MG) : Sp := fun vs H Q _ => ∃ (a : Addr) (x y : V), vs = [.ref a, x, y] ∧ H a = some (exo a (WP.ca mg "BadProgram") none) ∧
  ∀ (dx : Addr) (H' : Hp), H dx = none → dx ≠ a → H' a = some (exo a (WP.ca mg "BadProgram") (some dx)) → H' dx = some (exd dx (BPf x y)) → (∀ b o, b ≠ a → b ≠ dx → H b = some o → H' b = some o) → Q .non H'
/-- BadProgram with this line and this reason is raised -/
def BPr (mg : WP.MG) (H : Hp) (E : XK) (x y : V) : Prop := ∀ (d : Addr) (H' : Hp), Same H H' → H' d = some (.xd (BPf x y)) → E (.ref (WP.ca mg "BadProgram")) (some d) H'
theorem raise_BP {K : PySem.W.Frag} {mg : WP.MG} {H : Hp} {E : XK} {x y : V} (k : BPr mg H E x y) : [x, y].length ≤ 1000 ∧ ∀ a, H a = none → sp_BadProgram___init__ K mg (.ref a :: ([x, y] ++ [])) (upd H a (exo a (WP.ca mg "BadProgram") none))
    (fun v H2 => v = .non ∧ ∃ (d : Addr) (fs : List (Str × V)), H2 a = some (exo a (WP.ca mg "BadProgram") (some d)) ∧ H2 d = some (exd d fs) ∧ H d = none ∧ E (.ref (WP.ca mg "BadProgram")) (some d) (upd (del H2 a) d (.xd fs))) (fun _ _ _ => False) := by
  refine ⟨by show 2 ≤ 1000; decide, fun a ha => ⟨a, x, y, rfl, upd_same, fun dx H' n1 n2 h1 h2 keep => ?_⟩⟩
  have n1' : H dx = none := by rw [upd_ne n2] at n1; exact n1
  refine ⟨rfl, dx, BPf x y, h1, h2, n1', k dx _ (fun b o e => ?_) upd_same⟩
  have ba : b ≠ a := fun z => by rw [z, ha] at e; cases e
  have bd : b ≠ dx := fun z => by rw [z, n1'] at e; cases e
  rw [upd_ne bd, del_ne ba]
  exact keep b o ba bd (by rw [upd_ne ba]; exact e)
theorem cut_take (c : Nat) (l : List Nat) : l.take (MT.cutW c l).length = MT.cutW c l := by
  induction l with
  | nil => rfl
  | cons x r ih =>
    by_cases h : x = c
    · subst h
      rw [MR.cut_consEq.1]; rfl
    · rw [(MR.cut_consNe h).1, List.length_cons, List.take_succ_cons, ih]
theorem cut_all {c : Nat} {l : List Nat} (h : MT.cutR c l = none) : MT.cutW c l = l := by
  induction l with
  | nil => rfl
  | cons x r ih =>
    by_cases e : x = c
    · subst e
      rw [MR.cut_consEq.2] at h; cases h
    · rw [(MR.cut_consNe e).2] at h
      rw [(MR.cut_consNe e).1, ih h]
section
variable {P : Program} {w : World} {K : PySem.W.Frag} {mg : Str → Option Value} {base : Heap}
theorem ok_BadProgram___init__ {f : Addr} {fd : FuncData} (F : Fun K "__init__" "BadProgram.__init__" s_BadProgram___init__ f fd) (B : Blt w K mg)  : FnOk P w K mg base CX0 1 f fd ["self", "line", "reason"] (sp_BadProgram___init__ K mg) := by
  refine F.ok sc_BadProgram___init__ (fun vs H Q E h => ?_) (fun cdv A outer s H vs Q E hr h => ?_)
  · first | (obtain ⟨_, rfl, _⟩ := h; rfl) | (obtain ⟨_, _, rfl, _⟩ := h; rfl) | (obtain ⟨_, _, _, rfl, _⟩ := h; rfl) | (obtain ⟨_, _, _, _, rfl, _⟩ := h; rfl) | (obtain ⟨_, _, _, _, _, rfl, _⟩ := h; rfl) | (obtain ⟨_, _, _, _, _, _, rfl, _⟩ := h; rfl) | (obtain ⟨_, _, _, _, _, _, _, rfl, _⟩ := h; rfl) | (obtain ⟨_, _, _, _, _, _, _, _, rfl, _⟩ := h; rfl) | (obtain ⟨rfl, _⟩ := h; rfl)
  · obtain ⟨a, x, y, rfl, ha, k⟩ := h
    refine ⟨_, (pss_cons (ps_ost (pv 0) (pv 1))
      (pss_one (ps_ost (pv 0) (pv 2)))), ?_⟩
    k_updF
    refine ⟨a, _, rfl, B.xi_BadProgram.o, B.xi_BadProgram.n _ (by decide +kernel), .inl ⟨ha, fun dx n1 n2 => ?_⟩⟩
    k_updF
    refine ⟨a, _, rfl, B.xi_BadProgram.o, B.xi_BadProgram.n _ (by decide +kernel), .inr ⟨dx, [("line", x)], upd_same, by rw [upd_ne n2, upd_same], by show 1 ≤ 900; decide, ?_⟩⟩
    refine k dx _ n1 n2 (by rw [upd_ne (Ne.symm n2), upd_same]) upd_same (fun b o h1 h2 e => by rw [upd_ne h2, upd_ne h1, upd_ne h2]; exact e)
end
abbrev s_is_printable : Stmt := top 11
abbrev N_is_printable : List Str := ["value", "codes", "character"]
theorem sc_is_printable : FnScope N_is_printable ["value"] (defScope s_is_printable) := ⟨rfl, rfl, rfl, by decide +kernel, rfl, by decide +kernel, by decide +kernel⟩
def sp_is_printable (K : PySem.W.Frag) (mg : WP.MG) : Sp := fun vs H Q _ => ∃ l : List Nat, vs = [.str (SX.S l)] ∧ l.length ≤ 100000 ∧ GxR.TabG H (WP.tbl K "is_printable") ∧ WP.MetV (.bl (MW.prn l)) H Q
section
variable {P : Program} {w : World} {K : PySem.W.Frag} {mg : Str → Option Value} {base : Heap}
theorem ok_is_printable {f : Addr} {fd : FuncData} (F : WP.FunC K "is_printable" "is_printable" s_is_printable f fd (WP.cod K "is_printable")) (T : GxR.TabB base mg (WP.cod K "is_printable") (WP.tbl K "is_printable")) (B : Blt w K mg)  : FnOk P w K mg base CX0 1 f fd ["value"] (sp_is_printable K mg) := by
  refine F.ok sc_is_printable (fun vs H Q E h => ?_) (fun A outer s H vs Q E hr h => ?_)
  · first | (obtain ⟨_, rfl, _⟩ := h; rfl) | (obtain ⟨_, _, rfl, _⟩ := h; rfl) | (obtain ⟨_, _, _, rfl, _⟩ := h; rfl) | (obtain ⟨_, _, _, _, rfl, _⟩ := h; rfl) | (obtain ⟨_, _, _, _, _, rfl, _⟩ := h; rfl) | (obtain ⟨_, _, _, _, _, _, rfl, _⟩ := h; rfl) | (obtain ⟨_, _, _, _, _, _, _, rfl, _⟩ := h; rfl) | (obtain ⟨_, _, _, _, _, _, _, _, rfl, _⟩ := h; rfl) | (obtain ⟨rfl, _⟩ := h; rfl)
  · obtain ⟨l, rfl, hl, hT, k⟩ := h
    refine ⟨_, (pss_cons (ps_if (pt_not (pt_val (pe_callB call_isi (by rfl) B.b_isinstance (by decide +kernel) (pa_cons (pv 0) (pa_cons (pe_bltn (v := .ty "str") rfl B.b_str (by decide +kernel) rfl) pa_nil))))) (pss_one (ps_ret pe_bl)) pss_nil)
      (pss_cons (ps_setLc (i := 1) (own := [("character", 2)]) (g := gName 2) (tt := tYes) rfl sc_is_printable.nd rfl rfl (sw_true rfl rfl rfl (by decide +kernel)) (pi_str (pv 0)) (blkOk_by (own := [("character", 2)]) (N := N_is_printable) (sc := defScope s_is_printable) (by decide +kernel)) (fun _ _ _ _ _ => pg_name (i := 2) sc_is_printable.nd rfl (Or.inl rfl)) (fun _ _ _ _ _ => pts_nil) (fun _ _ _ _ _ => (pe_callB WP.c_ord (by rfl) B.b_ord (by decide +kernel) (WP.pa_consN (pv 2) pa_nil))))
      (pss_one (ps_ret (WP.pe_allR hr rfl B.b_all rfl T rfl (WP.gsc_by (sc := defScope s_is_printable) (by decide +kernel)) (pv 1) B.c_FIRST_PRINTABLE B.c_LAST_PRINTABLE B.c_NOT_PRINTABLE rfl rfl rfl (fun _ => rfl)))))), ?_⟩
    k_updF
    refine WP.isY (.base (.str _)) ?_
    k_updF
    refine WP.brF rfl ?_
    k_updF
    refine ⟨_, rfl, fun D hD => WP.lc_txt (fun i Hx => Hx = upd H D (.lst ((l.take i).map fun c => V.int ((c : Nat) : Int)))) rfl ?_ ?_⟩
    · rintro i c Hx hc rfl
      have et : l.take (i + 1) = l.take i ++ [c] := by rw [List.take_succ, hc]; rfl
      k_updF
      refine ⟨rfl, ?_⟩
      refine WP.yes ?_
      k_updF
      refine WP.ordS rfl ?_
      refine ⟨_, upd_same, ?_, ?_⟩
      · rw [List.length_map, List.length_take, sizeLine_eq]; omega
      · rw [et, List.map_append, upd_upd]
        rfl
    rintro Hx rfl
    k_updF
    rw [List.take_length]
    have e1 : Same H (upd H D (.lst (l.map fun c => V.int ((c : Nat) : Int)))) := WP.same_new hD
    have hT' := (WP.Sm.of e1).t _ hT
    refine WP.var rfl ⟨hT', D, l.map fun c => ((c : Nat) : Int), rfl, SqL.of (by rw [upd_same, List.map_map]; rfl), fun H2 h2 => ?_⟩
    rw [MW.prn_codes]
    exact k _ ((WP.Sm.of e1).trans (.tab hT' h2))
end
abbrev s__end_of_string : Stmt := top 18
abbrev N__end_of_string : List Str := ["row", "line", "start", "at"]
theorem sc__end_of_string : FnScope N__end_of_string ["row", "line", "start"] (defScope s__end_of_string) := ⟨rfl, rfl, rfl, by decide +kernel, rfl, by decide +kernel, by decide +kernel⟩
def fndQ (l : List Nat) (n : Nat) : Int := match MT.cutR 39 (l.drop n) with
  | none => -1
  | some _ => ((n + (MT.cutW 39 (l.drop n)).length : Nat) : Int)
def sp__end_of_string (K : PySem.W.Frag) (mg : WP.MG) : Sp := fun vs H Q E => ∃ (l : List Nat) (r s : Nat), vs = [.int (r : Int), .str (SX.S l), .int (s : Int)] ∧ l.length ≤ 100000 ∧ s < l.length ∧
  (MK.sEnd (l.drop (s + 1)) (s + 1) = none → BPr mg H E (.int (r : Int)) (.str (SX.S [113, 117, 111, 116, 101]))) ∧
  ∀ a, MK.sEnd (l.drop (s + 1)) (s + 1) = some a → (¬ (l.drop (a + 1)).take 1 ∈ [[], [32]] → BPr mg H E (.int (r : Int)) (.str (SX.S [113, 117, 111, 116, 101]))) ∧ ((l.drop (a + 1)).take 1 ∈ [[], [32]] → WP.RetV (.int ((a + 1 : Nat) : Int)) H Q)
section
variable {P : Program} {w : World} {K : PySem.W.Frag} {mg : Str → Option Value} {base : Heap}
theorem ok__end_of_string {f : Addr} {fd : FuncData} (F : Fun K "_end_of_string" "_end_of_string" s__end_of_string f fd) (B : Blt w K mg) (c_BadProgram___init__ : WP.CalleeE P w K mg base CX0 1 "BadProgram" ["self", "line", "reason"] (sp_BadProgram___init__ K mg)) : FnOk P w K mg base (L2N.CX P w) 3 f fd ["row", "line", "start"] (sp__end_of_string K mg) := by
  refine WP.okN F sc__end_of_string (fun vs H Q E h => ?_) (fun cdv A outer s H vs Q E hr h => ?_)
  · first | (obtain ⟨_, rfl, _⟩ := h; rfl) | (obtain ⟨_, _, rfl, _⟩ := h; rfl) | (obtain ⟨_, _, _, rfl, _⟩ := h; rfl) | (obtain ⟨_, _, _, _, rfl, _⟩ := h; rfl) | (obtain ⟨_, _, _, _, _, rfl, _⟩ := h; rfl) | (obtain ⟨_, _, _, _, _, _, rfl, _⟩ := h; rfl) | (obtain ⟨_, _, _, _, _, _, _, rfl, _⟩ := h; rfl) | (obtain ⟨_, _, _, _, _, _, _, _, rfl, _⟩ := h; rfl) | (obtain ⟨rfl, _⟩ := h; rfl)
  · obtain ⟨l, r, s, rfl, hl, hs, kN, k⟩ := h
    refine ⟨_, (pss_cons (ps_set (i := 3) sc__end_of_string.nd rfl (Or.inl rfl) (pe_bm PySem.F.plainAttrs_str PySem.F.slot_str_find PySem.F.type_str_find mt_find3 (pv 1) (WP.pa_consN (WP.pe_const (by rfl) B.c_QUOTE) (WP.pa_consN (pe_op op_add (pv 2) pe_int) pa_nil))))
      (pss_cons (ps_while (passes_of rfl) (PW.pt (pw_and (pt_cmpR op_ge (pv 3) pe_int (nomark _)) (pw_and1 (pt_cmpR op_eq (pe_slice sl_str (pv 1) (po_some (pe_op op_add (pv 3) pe_int)) (po_some (pe_op op_add (pv 3) pe_int))) (WP.pe_const (by rfl) B.c_QUOTE) (nomark _))))) (pss_one (ps_set (i := 3) sc__end_of_string.nd rfl (Or.inl rfl) (pe_bm PySem.F.plainAttrs_str PySem.F.slot_str_find PySem.F.type_str_find mt_find3 (pv 1) (WP.pa_consN (WP.pe_const (by rfl) B.c_QUOTE) (WP.pa_consN (pe_op op_add (pv 3) pe_int) pa_nil))))))
      (pss_cons (ps_if (PW.pt (pw_or (pt_cmpR op_lt (pv 3) pe_int (nomark _)) (pw_or1 (pt_cmpR op_notIn_seq (pe_slice sl_str (pv 1) (po_some (pe_op op_add (pv 3) pe_int)) (po_some (pe_op op_add (pv 3) pe_int))) (pe_tup (WP.pa_consN (WP.pe_strL [] (by decide +kernel)) (WP.pa_consN (WP.pe_strL [32] (by decide +kernel)) pa_nil))) rfl)))) (pss_one (WP.ps_raiseN rfl (L2N.takes_of rfl rfl rfl rfl) B.xi_BadProgram c_BadProgram___init__ (hr.mono (by decide)) pass0 (by rfl) (WP.pa_consN (pv 0) (WP.pa_consN (WP.pe_strL [113, 117, 111, 116, 101] (by decide +kernel)) pa_nil)))) pss_nil)
      (pss_one (ps_ret (pe_op op_add (pv 3) pe_int)))))), ?_⟩
    have hz : l.length ≤ sizeLine := by rw [sizeLine_eq]; omega
    have hf : ∀ n, n ≤ l.length → Txt.find3 (SX.S l) (SX.S [39]) (n : Int) = fndQ l n := fun n hn => MR.find_S 39 l n hn
    generalize hS : MK.sEnd (l.drop (s + 1)) (s + 1) = S at kN k
    k_updF
    refine ⟨_, _, _, rfl, rfl, ?_⟩
    rw [show (s : Int) + 1 = ((s + 1 : Nat) : Int) by omega, hf _ (by omega)]
    k_updF
    refine ⟨fun m σ' H' => H' = H ∧ ∃ n : Nat, n ≤ l.length ∧ l.length - n = m ∧ σ' = [some (.int (r : Int)), some (.str (SX.S l)), some (.int (s : Int)), some (.int (fndQ l n))] ∧ MK.sEnd (l.drop n) n = S, ⟨_, rfl, s + 1, by omega, rfl, rfl, hS⟩, ?_⟩
    rintro m σ' H' ⟨rfl, n, hn, rfl, rfl, hSn⟩
    cases hc : MT.cutR 39 (l.drop n) with
    | none =>
      have e : fndQ l n = -1 := by unfold fndQ; rw [hc]
      rw [MK.sEnd_none _ _ hc] at hSn
      rw [e]
      k_updF
      refine WP.brF (decide_eq_false (show ¬ (0 : Int) ≤ -1 by decide)) ?_
      refine WP.brF rfl ?_
      k_updF
      refine WP.brT (decide_eq_true (show (-1 : Int) < 0 by decide)) ?_
      refine WP.brT rfl ?_
      refine WP.mko ?_
      k_updF
      exact raise_BP (kN hSn.symm)
    | some q =>
      have e : fndQ l n = ((n + (MT.cutW 39 (l.drop n)).length : Nat) : Int) := by unfold fndQ; rw [hc]
      obtain ⟨h1, h2, h3⟩ := MK.sEnd_some _ n _ hc
      rw [h1] at hSn
      rw [List.length_drop] at h3
      generalize (MT.cutW 39 (l.drop n)).length = len at *
      rw [List.drop_drop] at h2
      have hp : n + len < l.length := by omega
      rw [e]
      have hp0 : (0 : Int) ≤ ((n + len : Nat) : Int) := by omega
      k_updF
      refine WP.brT (decide_eq_true hp0) ?_
      k_updF
      refine WP.slBoth (by omega) (by omega) hz ?_
      rw [show (((n + len : Nat) : Int) + 1).toNat = n + (len + 1) by omega, h2, show (((n + len : Nat) : Int) + 2 - (((n + len : Nat) : Int) + 1)).toNat = 1 by omega]
      k_updF
      refine WP.br (fun c => ?_) (fun c => ?_)
      · have hq : q ≠ [] := fun z => by rw [z] at c; cases c
        have hlq : n + len + 2 ≤ l.length := by
          have := congrArg List.length h2
          rw [List.length_drop] at this
          have := List.length_pos_iff.mpr hq
          omega
        rw [if_pos c] at hSn
        refine ⟨fun σ' H2 => ∃ m', m' < l.length - n ∧ H2 = H' ∧ ∃ n : Nat, n ≤ l.length ∧ l.length - n = m' ∧ σ' = [some (.int (r : Int)), some (.str (SX.S l)), some (.int (s : Int)), some (.int (fndQ l n))] ∧ MK.sEnd (l.drop n) n = S, fun _ _ x => x, ?_⟩
        k_updF
        refine ⟨_, _, _, rfl, rfl, ?_⟩
        rw [show ((n + len : Nat) : Int) + 2 = ((n + len + 2 : Nat) : Int) by omega, hf _ hlq]
        k_updF
        refine ⟨l.length - (n + len + 2), by omega, rfl, n + len + 2, hlq, rfl, rfl, ?_⟩
        rw [← hSn, ← h2, List.drop_drop, show n + (len + 1) + 1 = n + len + 2 by omega]
      · rw [if_neg c] at hSn
        obtain ⟨kE, kQ⟩ := k _ hSn.symm
        rw [show n + len + 1 = n + (len + 1) by omega, h2] at kE kQ
        k_updF
        refine WP.brF (decide_eq_false (by omega)) ?_
        k_updF
        refine WP.slBoth (by omega) (by omega) hz ?_
        rw [show (((n + len : Nat) : Int) + 1).toNat = n + (len + 1) by omega, h2, show (((n + len : Nat) : Int) + 2 - (((n + len : Nat) : Int) + 1)).toNat = 1 by omega]
        k_updF
        refine ⟨WP.sz2, fun T hT => ?_⟩
        refine WP.notInT [[], [32]] (SqT.of upd_same) rfl ?_
        refine ⟨_, rfl, ?_⟩
        have e1 : Same H' (upd H' T (.tup [.str (SX.S []), .str (SX.S [32])])) := WP.same_new hT
        refine WP.brN (fun c => ?_) (fun c => ?_)
        · refine WP.mko ?_
          k_updF
          exact raise_BP fun d H2 e2 hd => kE c d H2 (e1.trans e2) hd
        · k_updF
          exact kQ c _ e1
end
abbrev s__end_of_word : Stmt := top 19
abbrev N__end_of_word : List Str := ["row", "line", "start", "space", "end"]
theorem sc__end_of_word : FnScope N__end_of_word ["row", "line", "start"] (defScope s__end_of_word) := ⟨rfl, rfl, rfl, by decide +kernel, rfl, by decide +kernel, by decide +kernel⟩
def sp__end_of_word (K : PySem.W.Frag) (mg : WP.MG) : Sp := fun vs H Q E => ∃ (l : List Nat) (r s : Nat), vs = [.int (r : Int), .str (SX.S l), .int (s : Int)] ∧ l.length ≤ 100000 ∧ s ≤ l.length ∧
  (39 ∈ MT.cutW 32 (l.drop s) → BPr mg H E (.int (r : Int)) (.str (SX.S [113, 117, 111, 116, 101]))) ∧ (¬ 39 ∈ MT.cutW 32 (l.drop s) → Q (.int (eow l s : Int)) H)
section
variable {P : Program} {w : World} {K : PySem.W.Frag} {mg : Str → Option Value} {base : Heap}
theorem ok__end_of_word {f : Addr} {fd : FuncData} (F : Fun K "_end_of_word" "_end_of_word" s__end_of_word f fd) (B : Blt w K mg) (c_BadProgram___init__ : WP.CalleeE P w K mg base CX0 1 "BadProgram" ["self", "line", "reason"] (sp_BadProgram___init__ K mg)) : FnOk P w K mg base (L2N.CX P w) 3 f fd ["row", "line", "start"] (sp__end_of_word K mg) := by
  refine WP.okN F sc__end_of_word (fun vs H Q E h => ?_) (fun cdv A outer s H vs Q E hr h => ?_)
  · first | (obtain ⟨_, rfl, _⟩ := h; rfl) | (obtain ⟨_, _, rfl, _⟩ := h; rfl) | (obtain ⟨_, _, _, rfl, _⟩ := h; rfl) | (obtain ⟨_, _, _, _, rfl, _⟩ := h; rfl) | (obtain ⟨_, _, _, _, _, rfl, _⟩ := h; rfl) | (obtain ⟨_, _, _, _, _, _, rfl, _⟩ := h; rfl) | (obtain ⟨_, _, _, _, _, _, _, rfl, _⟩ := h; rfl) | (obtain ⟨_, _, _, _, _, _, _, _, rfl, _⟩ := h; rfl) | (obtain ⟨rfl, _⟩ := h; rfl)
  · obtain ⟨l, r, s, rfl, hl, hs, kE, k⟩ := h
    refine ⟨_, (pss_cons (ps_set (i := 3) sc__end_of_word.nd rfl (Or.inl rfl) (pe_bm PySem.F.plainAttrs_str PySem.F.slot_str_find PySem.F.type_str_find mt_find3 (pv 1) (WP.pa_consN (WP.pe_strL [32] (by decide +kernel)) (WP.pa_consN (pv 2) pa_nil))))
      (Evl.pss_cut (ps_set (i := 4) sc__end_of_word.nd rfl (Or.inl rfl) (pe_ifExp (pt_cmpR op_lt (pv 3) pe_int (nomark _)) (pe_callB WP.c_len (by rfl) B.b_len (by decide +kernel) (WP.pa_consN (pv 1) pa_nil)) (pv 3)))
      (pss_cons (ps_if (pt_cmpR WP.op_inSign (WP.pe_const (by rfl) B.c_QUOTE) (pe_slice sl_str (pv 1) (po_some (pv 2)) (po_some (pv 4))) rfl) (pss_one (WP.ps_raiseN rfl (L2N.takes_of rfl rfl rfl rfl) B.xi_BadProgram c_BadProgram___init__ (hr.mono (by decide)) pass0 (by rfl) (WP.pa_consN (pv 0) (WP.pa_consN (WP.pe_strL [113, 117, 111, 116, 101] (by decide +kernel)) pa_nil)))) pss_nil)
      (pss_one (ps_ret (pv 4)))))), ?_⟩
    have hz : l.length ≤ sizeLine := by rw [sizeLine_eq]; omega
    k_updF
    refine ⟨_, _, _, rfl, rfl, ?_⟩
    rw [MR.find_S 32 l s hs]
    have hw : (MT.cutW 32 (l.drop s)).length ≤ l.length - s := by
      have := congrArg List.length (cut_take 32 (l.drop s))
      rw [List.length_take, List.length_drop] at this
      omega
    have he : eow l s ≤ l.length := by unfold eow; omega
    k_updF
    refine WP.cut (fun σ' H' => H' = H ∧ ∃ sp : V, σ' = [some (.int (r : Int)), some (.str (SX.S l)), some (.int (s : Int)), some sp, some (.int (eow l s : Int))]) ?_ ?_
    · k_updF
      cases hc : MT.cutR 32 (l.drop s) with
      | none =>
        refine WP.brT (decide_eq_true (show (-1 : Int) < 0 by decide)) ?_
        k_updF
        refine WP.lenS' hz ?_
        k_updF
        refine ⟨rfl, .int (-1), ?_⟩
        have : eow l s = l.length := by unfold eow; rw [cut_all hc, List.length_drop]; omega
        rw [this]
        rfl
      | some q =>
        refine WP.brF (decide_eq_false (by show ¬ ((s + (MT.cutW 32 (l.drop s)).length : Nat) : Int) < 0; omega)) ?_
        k_updF
        exact ⟨rfl, _, rfl⟩
    rintro σ' H' ⟨rfl, sp, rfl⟩
    k_updF
    refine WP.slBoth (by omega) (by unfold eow; omega) hz ?_
    rw [Int.toNat_natCast, show (((eow l s : Nat) : Int) - (s : Int)).toNat = (MT.cutW 32 (l.drop s)).length by unfold eow; omega, cut_take]
    refine WP.inSign ?_
    refine ⟨_, rfl, ?_⟩
    refine WP.br (fun c => ?_) (fun c => ?_)
    · refine WP.mko ?_
      k_updF
      exact raise_BP (kE c)
    · k_updF
      exact k c
end
abbrev s__tokens_of_line : Stmt := top 17
abbrev N__tokens_of_line : List Str := ["row", "line", "found", "at", "end", "string"]
theorem sc__tokens_of_line : FnScope N__tokens_of_line ["row", "line"] (defScope s__tokens_of_line) := ⟨rfl, rfl, rfl, by decide +kernel, rfl, by decide +kernel, by decide +kernel⟩
/-- a list of tokens of a row -/
def TksAt (K : PySem.W.Frag) (H : Hp) (r : Int) (as : List Addr) (ts : List Tk) : Prop := as.length = ts.length ∧ ∀ (i : Nat) (a : Addr) (t : Tk), as[i]? = some a → ts[i]? = some t → SqT K H a (t.vs r)
theorem TksAt.app {K : PySem.W.Frag} {H1 H2 : Hp} {r : Int} {as : List Addr} {ts : List Tk} {L p : Addr} {xs : List V} {o : HO} {t : Tk} (h : TksAt K H1 r as ts) (e : Same H1 H2) (hL : H2 L = some (.lst xs)) (hp : SqT K H2 p (t.vs r)) : TksAt K (upd H2 L o) r (as ++ [p]) (ts ++ [t]) := by
  obtain ⟨h1, h2⟩ := h
  refine ⟨by rw [List.length_append, List.length_append, h1]; rfl, fun j a' t' ha ht => ?_⟩
  rcases Nat.lt_or_ge j as.length with hj | hj
  · rw [List.getElem?_append_left hj] at ha
    rw [List.getElem?_append_left (by omega)] at ht
    exact WP.sqtX (d := L) WP.Sx.upd hL (WP.sqt e (h2 j a' t' ha ht))
  · rw [List.getElem?_append_right hj] at ha
    rw [List.getElem?_append_right (by omega)] at ht
    have hj0 : j - as.length = 0 := by
      have := (List.getElem?_eq_some_iff.mp ha).1
      simp at this; omega
    rw [← h1] at ht
    rw [hj0] at ha ht
    cases ha
    cases ht
    exact WP.sqtX (d := L) WP.Sx.upd hL hp
theorem om {o : Option (List Tk)} {ts : List Tk} {t : Tk} : (o.map (t :: ·)).map (ts ++ ·) = o.map ((ts ++ [t]) ++ ·) := by
  cases o with
  | none => rfl
  | some x => show some (ts ++ t :: x) = some (ts ++ [t] ++ x); rw [List.append_assoc]; rfl
theorem run_lt {l : List Nat} {n c : Nat} (h : l[n]? = some c) : n < l.length := (List.getElem?_eq_some_iff.mp h).1
theorem eow_ok {l : List Nat} {n c : Nat} (h : l[n]? = some c) (h1 : c ≠ 32) : n < eow l n ∧ eow l n ≤ l.length ∧ (l.drop n).take (eow l n - n) = MT.cutW 32 (l.drop n) := by
  have hn := run_lt h
  have hd := MP.drop_some h
  have hw : (MT.cutW 32 (l.drop n)).length ≤ l.length - n := by
    have := congrArg List.length (cut_take 32 (l.drop n))
    rw [List.length_take, List.length_drop] at this
    omega
  have h0 : 1 ≤ (MT.cutW 32 (l.drop n)).length := by
    rw [hd, (MR.cut_consNe h1).1]
    show 1 ≤ _ + 1
    omega
  unfold eow
  refine ⟨by omega, by omega, ?_⟩
  rw [show n + (MT.cutW 32 (l.drop n)).length - n = (MT.cutW 32 (l.drop n)).length by omega, cut_take]
def sp__tokens_of_line (K : PySem.W.Frag) (mg : WP.MG) : Sp := fun vs H Q E => ∃ (l : List Nat) (r : Nat) (o : Option (List Tk)), vs = [.int (r : Int), .str (SX.S l)] ∧ l.length ≤ 100000 ∧ Run l 0 o ∧
  (o = none → BPr mg H E (.int (r : Int)) (.str (SX.S [113, 117, 111, 116, 101]))) ∧
  ∀ ts, o = some ts → ∀ (L : Addr) (as : List Addr) (H' : Hp), Same H H' → H' L = some (.lst (as.map V.ref)) → H L = none → as.length ≤ l.length → TksAt K H' (r : Int) as ts → Q (.ref L) H'
section
variable {P : Program} {w : World} {K : PySem.W.Frag} {mg : Str → Option Value} {base : Heap}
theorem ok__tokens_of_line {f : Addr} {fd : FuncData} (F : Fun K "_tokens_of_line" "_tokens_of_line" s__tokens_of_line f fd) (B : Blt w K mg) (c__end_of_string : WP.Callee P w K mg base (L2N.CX P w) 3 "_end_of_string" ["row", "line", "start"] (sp__end_of_string K mg)) (c__end_of_word : WP.Callee P w K mg base (L2N.CX P w) 3 "_end_of_word" ["row", "line", "start"] (sp__end_of_word K mg)) : FnOk P w K mg base (L2N.CX P w) 4 f fd ["row", "line"] (sp__tokens_of_line K mg) := by
  refine WP.okN F sc__tokens_of_line (fun vs H Q E h => ?_) (fun cdv A outer s H vs Q E hr h => ?_)
  · first | (obtain ⟨_, rfl, _⟩ := h; rfl) | (obtain ⟨_, _, rfl, _⟩ := h; rfl) | (obtain ⟨_, _, _, rfl, _⟩ := h; rfl) | (obtain ⟨_, _, _, _, rfl, _⟩ := h; rfl) | (obtain ⟨_, _, _, _, _, rfl, _⟩ := h; rfl) | (obtain ⟨_, _, _, _, _, _, rfl, _⟩ := h; rfl) | (obtain ⟨_, _, _, _, _, _, _, rfl, _⟩ := h; rfl) | (obtain ⟨_, _, _, _, _, _, _, _, rfl, _⟩ := h; rfl) | (obtain ⟨rfl, _⟩ := h; rfl)
  · obtain ⟨l, r, o, rfl, hl, hR, kE, k⟩ := h
    refine ⟨_, (pss_cons (ps_set (i := 2) sc__tokens_of_line.nd rfl (Or.inl rfl) (pe_lst pa_nil))
      (pss_cons (ps_set (i := 3) sc__tokens_of_line.nd rfl (Or.inl rfl) pe_int)
      (pss_cons (ps_while (passes_of rfl) (pt_cmpR op_lt (pv 3) (pe_callB WP.c_len (by rfl) B.b_len (by decide +kernel) (WP.pa_consN (pv 1) pa_nil)) (nomark _)) (pss_one (ps_if (pt_cmpR op_eq (pe_ix ix_str (pv 1) (pv 3) (fun _ _ => rfl)) (WP.pe_strL [32] (by decide +kernel)) (nomark _)) (pss_one (ps_set (i := 3) sc__tokens_of_line.nd rfl (Or.inl rfl) (pe_op op_add (pv 3) pe_int))) (pss_one (ps_if (pt_cmpR op_eq (pe_ix ix_str (pv 1) (pv 3) (fun _ _ => rfl)) (WP.pe_const (by rfl) B.c_QUOTE) (nomark _)) (pss_cons (ps_set (i := 4) sc__tokens_of_line.nd rfl (Or.inl rfl) (WP.pe_callC c__end_of_string hr rfl (WP.passN rfl rfl rfl rfl) (WP.pa_consN (pv 0) (WP.pa_consN (pv 1) (WP.pa_consN (pv 3) pa_nil)))))
      (pss_cons (ps_set (i := 5) sc__tokens_of_line.nd rfl (Or.inl rfl) (pe_slice sl_str (pv 1) (po_some (pe_op op_add (pv 3) pe_int)) (po_some (pe_op op_sub (pv 4) pe_int))))
      (pss_cons (ps_expr (pe_bm PySem.F.plainAttrs_list PySem.F.slot_list_append PySem.F.type_list_append mt_append (pv 2) (WP.pa_consN (pe_tup (WP.pa_consN (pv 0) (WP.pa_consN (WP.pe_strL [115, 116, 114, 105, 110, 103] (by decide +kernel)) (WP.pa_consN (WR.pe_replK (pv 5) (by rfl) (by rfl) B.rp_DOUBLED_QUOTE_QUOTE) pa_nil)))) pa_nil)))
      (pss_one (ps_set (i := 3) sc__tokens_of_line.nd rfl (Or.inl rfl) (pv 4)))))) (pss_cons (ps_set (i := 4) sc__tokens_of_line.nd rfl (Or.inl rfl) (WP.pe_callC c__end_of_word hr rfl (WP.passN rfl rfl rfl rfl) (WP.pa_consN (pv 0) (WP.pa_consN (pv 1) (WP.pa_consN (pv 3) pa_nil)))))
      (pss_cons (ps_expr (pe_bm PySem.F.plainAttrs_list PySem.F.slot_list_append PySem.F.type_list_append mt_append (pv 2) (WP.pa_consN (pe_tup (WP.pa_consN (pv 0) (WP.pa_consN (WP.pe_strL [119, 111, 114, 100] (by decide +kernel)) (WP.pa_consN (pe_slice sl_str (pv 1) (po_some (pv 3)) (po_some (pv 4))) pa_nil)))) pa_nil)))
      (pss_one (ps_set (i := 3) sc__tokens_of_line.nd rfl (Or.inl rfl) (pv 4))))))))))
      (pss_one (ps_ret (pv 2)))))), ?_⟩
    have hz : l.length ≤ sizeLine := by rw [sizeLine_eq]; omega
    k_updF
    refine ⟨WP.sz (by decide), fun L hL => ?_⟩
    k_updF
    refine ⟨fun m σ' H' => Same H H' ∧ ∃ (n : Nat) (ts : List Tk) (o' : Option (List Tk)) (as : List Addr) (z4 z5 : Option V), n ≤ l.length ∧ l.length - n = m ∧ as.length ≤ n ∧ σ' = [some (.int (r : Int)), some (.str (SX.S l)), some (.ref L), some (.int (n : Int)), z4, z5] ∧ H' L = some (.lst (as.map V.ref)) ∧ TksAt K H' (r : Int) as ts ∧ Run l n o' ∧ o = o'.map (ts ++ ·),
      ⟨_, WP.same_new hL, 0, [], o, [], none, none, Nat.zero_le _, rfl, Nat.le_refl _, rfl, upd_same, ⟨rfl, fun i a t h => by cases h⟩, hR, by cases o <;> rfl⟩, ?_⟩
    rintro m σ' H1 ⟨e1, n, ts, o', as, z4, z5, hn, rfl, has, rfl, hl1, hts, hRn, ho⟩
    have hzl : (as.map V.ref).length < sizeLine := by rw [List.length_map, sizeLine_eq]; omega
    k_updF
    refine WP.lenS' hz ?_
    k_updF
    have fin : ∀ (n' : Nat) (t : Tk) (o2 : Option (List Tk)) (p : Addr) (H2 : Hp) (y4 y5 : Option V), n < n' → n' ≤ l.length → Same H1 H2 → SqT K H2 p (t.vs (r : Int)) → Run l n' o2 → o = (o2.map (t :: ·)).map (ts ++ ·) →
        ∃ m', m' < l.length - n ∧ Same H (upd H2 L (.lst (as.map V.ref ++ [.ref p]))) ∧ ∃ (n : Nat) (ts : List Tk) (o' : Option (List Tk)) (as' : List Addr) (z4 z5 : Option V), n ≤ l.length ∧ l.length - n = m' ∧ as'.length ≤ n ∧ [some (V.int (r : Int)), some (.str (SX.S l)), some (.ref L), some (.int (n' : Int)), y4, y5] = [some (.int (r : Int)), some (.str (SX.S l)), some (.ref L), some (.int (n : Int)), z4, z5] ∧ (upd H2 L (.lst (as.map V.ref ++ [.ref p]))) L = some (.lst (as'.map V.ref)) ∧ TksAt K (upd H2 L (.lst (as.map V.ref ++ [.ref p]))) (r : Int) as' ts ∧ Run l n o' ∧ o = o'.map (ts ++ ·) :=
      fun n' t o2 p H2 y4 y5 h1 h2 e2 hp hr ho => ⟨l.length - n', by omega, WP.same_mut (e1.trans e2) hL, n', ts ++ [t], o2, as ++ [p], y4, y5, h2, rfl, by rw [List.length_append, List.length_singleton]; omega, rfl, by rw [upd_same, List.map_append]; rfl, hts.app e2 (e2 _ _ hl1) hp, hr, by rw [ho, om]⟩
    have W2 : ∀ (y : Option (List Tk)), True := fun _ => True.intro
    by_cases hlt : n < l.length
    · refine WP.brT (decide_eq_true (by omega)) ?_
      refine ⟨fun σ' H2 => ∃ m', m' < l.length - n ∧ Same H H2 ∧ ∃ (n : Nat) (ts : List Tk) (o' : Option (List Tk)) (as' : List Addr) (z4 z5 : Option V), n ≤ l.length ∧ l.length - n = m' ∧ as'.length ≤ n ∧ σ' = [some (.int (r : Int)), some (.str (SX.S l)), some (.ref L), some (.int (n : Int)), z4, z5] ∧ H2 L = some (.lst (as'.map V.ref)) ∧ TksAt K H2 (r : Int) as' ts ∧ Run l n o' ∧ o = o'.map (ts ++ ·), fun _ _ x => x, ?_⟩
      have hat : ∀ {c : Nat}, l[n]? = some c → atI l (n : Int) = some c := fun h => atI_nat h
      cases hRn with
      | stop h => omega
      | space h rr =>
        k_updF
        refine WP.ixS1 (hat h) hz ?_
        k_updF
        refine WP.brT (by decide) ?_
        k_updF
        exact ⟨l.length - (n + 1), by omega, e1, n + 1, ts, _, as, z4, z5, by omega, rfl, by omega, rfl, hl1, hts, rr, ho⟩
      | @str _ a s o2 h e g hs ha rr =>
        k_updF
        refine WP.ixS1 (hat h) hz ?_
        k_updF
        refine WP.brF (by decide) ?_
        k_updF
        refine WP.ixS1 (hat h) hz ?_
        k_updF
        refine WP.brT (by decide) ?_
        k_updF
        refine ⟨l, r, n, rfl, hl, hlt, (fun z => by rw [e] at z; cases z), fun a' ea => ?_⟩
        obtain rfl : a = a' := by rw [e] at ea; exact Option.some.inj ea
        refine ⟨fun z => absurd g z, fun _ H2 e2 => ?_⟩
        have hsl := MK.dq_len s
        have hsd : (MK.dq s).length ≤ 100000 := by rw [← hs, List.length_take, List.length_drop]; omega
        k_updF
        refine WP.slBoth (by omega) (by omega) hz ?_
        rw [show ((n : Int) + 1).toNat = n + 1 by omega, show (((a + 1 : Nat) : Int) - 1 - ((n : Int) + 1)).toNat = a - (n + 1) by omega, hs]
        k_updF
        refine WP.tyL (SqL.of (e2 _ _ hl1)) ?_
        k_updF
        refine WR.repl ?_
        k_updF
        refine ⟨_, rfl, by rw [SX.S_len, show ("'" : Str).length = 1 from by decide +kernel]; omega, ?_⟩
        rw [MK.repl_uq]
        k_updF
        refine ⟨WP.sz (show 3 ≤ 1000000 by decide), fun p hp => ?_⟩
        have e3 : Same H2 (upd H2 p (.tup (Tk.vs (r : Int) (true, s)))) := WP.same_new hp
        k_updF
        refine WP.appL (e3 _ _ (e2 _ _ hl1)) hzl ?_
        k_updF
        exact fin (a + 1) (true, s) o2 p _ _ _ (by omega) (by omega) (e2.trans e3) (SqT.of upd_same) rr ho
      | bad1 h e =>
        k_updF
        refine WP.ixS1 (hat h) hz ?_
        k_updF
        refine WP.brF (by decide) ?_
        k_updF
        refine WP.ixS1 (hat h) hz ?_
        k_updF
        refine WP.brT (by decide) ?_
        k_updF
        exact ⟨l, r, n, rfl, hl, hlt, fun _ d H2 e2 hd => kE ho d H2 (e1.trans e2) hd, fun a ea => by rw [e] at ea; cases ea⟩
      | @bad2 _ a h e g =>
        k_updF
        refine WP.ixS1 (hat h) hz ?_
        k_updF
        refine WP.brF (by decide) ?_
        k_updF
        refine WP.ixS1 (hat h) hz ?_
        k_updF
        refine WP.brT (by decide) ?_
        k_updF
        refine ⟨l, r, n, rfl, hl, hlt, (fun z => by rw [e] at z; cases z), fun a' ea => ?_⟩
        obtain rfl : a = a' := by rw [e] at ea; exact Option.some.inj ea
        exact ⟨fun _ d H2 e2 hd => kE ho d H2 (e1.trans e2) hd, fun z => absurd z g⟩
      | @word _ c o2 h h1 h2 g rr =>
        obtain ⟨w1, w2, w3⟩ := eow_ok h h1
        k_updF
        refine WP.ixS1 (hat h) hz ?_
        k_updF
        refine WP.brF (decide_eq_false (by simpa using h1)) ?_
        k_updF
        refine WP.ixS1 (hat h) hz ?_
        k_updF
        refine WP.brF (decide_eq_false (by simpa using h2)) ?_
        k_updF
        refine ⟨l, r, n, rfl, hl, hn, fun z => absurd z g, fun _ => ?_⟩
        k_updF
        refine WP.tyL (SqL.of hl1) ?_
        k_updF
        refine WP.slBoth (by omega) (by omega) hz ?_
        rw [Int.toNat_natCast, show (((eow l n : Nat) : Int) - (n : Int)).toNat = eow l n - n by omega, w3]
        k_updF
        refine ⟨WP.sz (show 3 ≤ 1000000 by decide), fun p hp => ?_⟩
        have e3 : Same H1 (upd H1 p (.tup (Tk.vs (r : Int) (false, MT.cutW 32 (l.drop n))))) := WP.same_new hp
        k_updF
        refine WP.appL (e3 _ _ hl1) hzl ?_
        k_updF
        exact fin (eow l n) (false, MT.cutW 32 (l.drop n)) o2 p _ _ _ w1 w2 e3 (SqT.of upd_same) rr ho
      | bad3 h h1 h2 g =>
        k_updF
        refine WP.ixS1 (hat h) hz ?_
        k_updF
        refine WP.brF (decide_eq_false (by simpa using h1)) ?_
        k_updF
        refine WP.ixS1 (hat h) hz ?_
        k_updF
        refine WP.brF (decide_eq_false (by simpa using h2)) ?_
        k_updF
        exact ⟨l, r, n, rfl, hl, hn, fun _ d H2 e2 hd => kE ho d H2 (e1.trans e2) hd, fun z => absurd g z⟩
    · refine WP.brF (decide_eq_false (by omega)) ?_
      k_updF
      have : o' = some [] := by
        cases hRn with
        | stop h => rfl
        | space h => exact absurd (run_lt h) hlt
        | str h => exact absurd (run_lt h) hlt
        | bad1 h => exact absurd (run_lt h) hlt
        | bad2 h => exact absurd (run_lt h) hlt
        | word h => exact absurd (run_lt h) hlt
        | bad3 h => exact absurd (run_lt h) hlt
      subst this
      exact k ts (by rw [ho]; show some (ts ++ []) = _; rw [List.append_nil]) L as H1 e1 hl1 hL (by omega) hts
end
abbrev s_tokens : Stmt := top 16
abbrev N_tokens : List Str := ["text", "lines", "at", "line", "found"]
theorem sc_tokens : FnScope N_tokens ["text"] (defScope s_tokens) := ⟨rfl, rfl, rfl, by decide +kernel, rfl, by decide +kernel, by decide +kernel⟩
/-- BadProgram is raised, tables grown -/
def BPm (mg : WP.MG) (H : Hp) (E : XK) (x y : V) : Prop := ∀ (d : Addr) (H' : Hp), WP.Sm H H' → H' d = some (.xd (BPf x y)) → E (.ref (WP.ca mg "BadProgram")) (some d) H'
def RtAt (K : PySem.W.Frag) (H : Hp) (as : List Addr) (ts : List (Nat × Tk)) : Prop := as.length = ts.length ∧ ∀ (i : Nat) (a : Addr) (t : Nat × Tk), as[i]? = some a → ts[i]? = some t → SqT K H a (t.2.vs (t.1 : Int))
theorem len_flat : ∀ (ls : List (List Nat)) (x : List Nat), x ∈ ls → x.length ≤ ls.flatten.length
  | y :: r, x, h => by
    rw [List.flatten_cons, List.length_append]
    rcases List.mem_cons.mp h with e | e
    · rw [e]; omega
    · have := len_flat r x e
      omega
theorem RtAt.app {K : PySem.W.Frag} {H1 H2 : Hp} {as bs : List Addr} {ts : List (Nat × Tk)} {us : List Tk} {n : Nat} {L : Addr} {xs : List V} {o : HO} (h : RtAt K H1 as ts) (e : Same H1 H2) (hL : H2 L = some (.lst xs)) (hb : TksAt K H2 (n : Int) bs us) : RtAt K (upd H2 L o) (as ++ bs) (ts ++ us.map fun t => (n, t)) := by
  obtain ⟨h1, h2⟩ := h
  obtain ⟨b1, b2⟩ := hb
  refine ⟨by rw [List.length_append, List.length_append, List.length_map, h1, b1], fun j a' t' ha ht => ?_⟩
  rcases Nat.lt_or_ge j as.length with hj | hj
  · rw [List.getElem?_append_left hj] at ha
    rw [List.getElem?_append_left (by omega)] at ht
    exact WP.sqtX (d := L) WP.Sx.upd hL (WP.sqt e (h2 j a' t' ha ht))
  · rw [List.getElem?_append_right hj] at ha
    rw [List.getElem?_append_right (by omega), List.getElem?_map, ← h1] at ht
    cases eu : us[j - as.length]? with
    | none => rw [eu] at ht; cases ht
    | some u =>
      rw [eu] at ht
      cases ht
      exact WP.sqtX (d := L) WP.Sx.upd hL (b2 _ a' u ha eu)
theorem in_flat {l : List Nat} {i : Nat} {x : List Nat} (h : (lns l)[i]? = some x) : x.length ≤ l.length := by
  have h1 := MT.spl_flat (c := 10) l.length l (Nat.le_refl _)
  have hm : x ∈ TL.spl [10] 0 [] l := List.mem_of_getElem? h
  have h2 := len_flat (TL.spl [10] 0 [] l) x hm
  omega
def sp_tokens (K : PySem.W.Frag) (mg : WP.MG) : Sp := fun vs H Q E => ∃ (l : List Nat), vs = [.str (SX.S l)] ∧ l.length ≤ 100000 ∧ GxR.TabG H (WP.tbl K "is_printable") ∧
  (40000 < l.length → BPm mg H E (.int 0) (.str (SX.S [115, 105, 122, 101]))) ∧
  (l.length ≤ 40000 →
    (∀ (i : Nat) (x : List Nat), (lns l)[i]? = some x → MW.prn x = false → (∀ (j : Nat) (y : List Nat), j < i → (lns l)[j]? = some y → MW.prn y = true) → BPm mg H E (.int ((i + 1 : Nat) : Int)) CHR) ∧
    ((∀ x ∈ lns l, MW.prn x = true) →
      ∃ os : List (Option (List Tk)), os.length = (lns l).length ∧ (∀ (i : Nat) (x : List Nat) (o : Option (List Tk)), (lns l)[i]? = some x → os[i]? = some o → Run x 0 o) ∧
        (∀ i : Nat, os[i]? = some none → (∀ j : Nat, j < i → os[j]? ≠ some none) → BPm mg H E (.int ((i + 1 : Nat) : Int)) QUO) ∧
        ∀ ts : List (List Tk), os = ts.map some → ∀ (L : Addr) (as : List Addr) (H' : Hp), WP.Sm H H' → H' L = some (.lst (as.map V.ref)) → RtAt K H' as (rowsF 1 ts) → Q (.ref L) H'))
section
variable {P : Program} {w : World} {K : PySem.W.Frag} {mg : Str → Option Value} {base : Heap}
theorem ok_tokens {f : Addr} {fd : FuncData} (F : Fun K "tokens" "tokens" s_tokens f fd) (B : Blt w K mg) (c_BadProgram___init__ : WP.CalleeE P w K mg base CX0 1 "BadProgram" ["self", "line", "reason"] (sp_BadProgram___init__ K mg)) (c_is_printable : WP.Callee P w K mg base CX0 1 "is_printable" ["value"] (sp_is_printable K mg)) (c__tokens_of_line : WP.Callee P w K mg base (L2N.CX P w) 4 "_tokens_of_line" ["row", "line"] (sp__tokens_of_line K mg)) : FnOk P w K mg base (L2N.CX P w) 5 f fd ["text"] (sp_tokens K mg) := by
  refine WP.okN F sc_tokens (fun vs H Q E h => ?_) (fun cdv A outer s H vs Q E hr h => ?_)
  · first | (obtain ⟨_, rfl, _⟩ := h; rfl) | (obtain ⟨_, _, rfl, _⟩ := h; rfl) | (obtain ⟨_, _, _, rfl, _⟩ := h; rfl) | (obtain ⟨_, _, _, _, rfl, _⟩ := h; rfl) | (obtain ⟨_, _, _, _, _, rfl, _⟩ := h; rfl) | (obtain ⟨_, _, _, _, _, _, rfl, _⟩ := h; rfl) | (obtain ⟨_, _, _, _, _, _, _, rfl, _⟩ := h; rfl) | (obtain ⟨_, _, _, _, _, _, _, _, rfl, _⟩ := h; rfl) | (obtain ⟨rfl, _⟩ := h; rfl)
  · obtain ⟨l, rfl, hl, hT, kS, kk⟩ := h
    refine ⟨_, (pss_cons (ps_if (pt_cmpR op_gt (pe_callB WP.c_len (by rfl) B.b_len (by decide +kernel) (WP.pa_consN (pv 0) pa_nil)) (WP.pe_const (by rfl) B.c_MOST_PROGRAM) (nomark _)) (pss_one (WP.ps_raiseN rfl (L2N.takes_of rfl rfl rfl rfl) B.xi_BadProgram c_BadProgram___init__ (hr.mono (by decide)) pass0 (by rfl) (WP.pa_consN pe_int (WP.pa_consN (WP.pe_strL [115, 105, 122, 101] (by decide +kernel)) pa_nil)))) pss_nil)
      (pss_cons (ps_set (i := 1) sc_tokens.nd rfl (Or.inl rfl) (pe_bm PySem.F.plainAttrs_str PySem.F.slot_str_split PySem.F.type_str_split mt_split (pv 0) (WP.pa_consN (WP.pe_strL [10] (by decide +kernel)) pa_nil)))
      (pss_cons (ps_for (passes_of rfl) rfl (WE1.pi_enum1 (by rfl) B.b_enumerate (WP.pa_consN (pv 1) pa_nil)) (pg_tup (by rfl) (pgs_cons (pg_name (i := 2) sc_tokens.nd rfl (Or.inl rfl)) (pgs_cons (pg_name (i := 3) sc_tokens.nd rfl (Or.inl rfl)) pgs_nil))) (pss_one (ps_if (pt_not (pt_val (WP.pe_callC c_is_printable hr rfl pass0 (WP.pa_consN (pv 3) pa_nil)))) (pss_one (WP.ps_raiseN rfl (L2N.takes_of rfl rfl rfl rfl) B.xi_BadProgram c_BadProgram___init__ (hr.mono (by decide)) pass0 (by rfl) (WP.pa_consN (pv 2) (WP.pa_consN (WP.pe_strL [99, 104, 97, 114, 97, 99, 116, 101, 114] (by decide +kernel)) pa_nil)))) pss_nil)))
      (pss_cons (ps_set (i := 4) sc_tokens.nd rfl (Or.inl rfl) (pe_lst pa_nil))
      (pss_cons (ps_for (passes_of rfl) rfl (WE1.pi_enum1 (by rfl) B.b_enumerate (WP.pa_consN (pv 1) pa_nil)) (pg_tup (by rfl) (pgs_cons (pg_name (i := 2) sc_tokens.nd rfl (Or.inl rfl)) (pgs_cons (pg_name (i := 3) sc_tokens.nd rfl (Or.inl rfl)) pgs_nil))) (pss_one (ps_expr (pe_bm PySem.F.plainAttrs_list PySem.F.slot_list_extend PySem.F.type_list_extend mt_extend (pv 4) (WP.pa_consN (WP.pe_callC c__tokens_of_line hr rfl (WP.passN rfl rfl rfl rfl) (WP.pa_consN (pv 2) (WP.pa_consN (pv 3) pa_nil))) pa_nil)))))
      (pss_one (ps_ret (pv 4)))))))), ?_⟩
    have hz : l.length ≤ sizeLine := by rw [sizeLine_eq]; omega
    k_updF
    refine WP.lenS' hz ?_
    k_updF
    refine WP.br (fun c => ?_) (fun c => ?_)
    · refine WP.mko ?_
      k_updF
      exact raise_BP fun d H' e hd => kS (by omega) d H' (WP.Sm.of e) hd
    obtain ⟨kC, kR⟩ := kk (by omega)
    clear kS kk
    k_updF
    refine ⟨_, _, rfl, rfl, by decide +kernel, by rw [SX.S_len, sizeLine_eq]; omega, fun p hp => ?_⟩
    rw [SX.split_S (by decide) (by decide)]
    have hcnt : (lns l).length ≤ l.length + 1 := MT.spl_count l.length l (Nat.le_refl _)
    have hfl : (lns l).flatten.length ≤ l.length := MT.spl_flat (c := 10) l.length l (Nat.le_refl _)
    have hin := fun (i : Nat) (x : List Nat) (h : (lns l)[i]? = some x) => in_flat h
    have hmm : ((TL.spl [10] 0 [] l).map SX.S).map V.str = (lns l).map fun x => V.str (SX.S x) := by rw [List.map_map]; rfl
    rw [hmm]
    generalize lns l = ls at *
    have e0 : Same H (upd H p (.lst (ls.map fun x => V.str (SX.S x)))) := WP.same_new hp
    have hls : SqL K (upd H p (.lst (ls.map fun x => V.str (SX.S x)))) p (ls.map fun x => V.str (SX.S x)) := SqL.of upd_same
    have hT0 := (WP.Sm.of e0).t _ hT
    generalize upd H p (.lst (ls.map fun x => V.str (SX.S x))) = H0 at e0 hls hT0 ⊢
    have gy : ∀ {i : Nat} {y : V}, (ls.map fun x => V.str (SX.S x))[i]? = some y → ∃ x, ls[i]? = some x ∧ V.str (SX.S x) = y := fun {i y} h => by
      rw [List.getElem?_map] at h
      cases e : ls[i]? with
      | none => rw [e] at h; cases h
      | some x => rw [e] at h; exact ⟨x, rfl, Option.some.inj h⟩
    k_updF
    refine ⟨p, _, rfl, hls, WE1.for_enum1 (fun i σ' H' => WP.Sm H0 H' ∧ (∃ z2 z3, σ' = [some (.str (SX.S l)), some (.ref p), z2, z3, none]) ∧ ∀ (j : Nat) (y : List Nat), j < i → ls[j]? = some y → MW.prn y = true) ⟨.refl _, ⟨none, none, rfl⟩, fun j y h => by omega⟩ (fun i σ G _ h => h.1.lst hls) ?_ ?_⟩
    · rintro i y σ' H1 N hiy hN ⟨e1, ⟨z2, z3, rfl⟩, hpr⟩
      obtain ⟨x, hx, rfl⟩ := gy hiy
      have e2 : Same H1 (upd H1 N (.tup [.int ((i + 1 : Nat) : Int), .str (SX.S x)])) := WP.same_new hN
      refine WP.unT (SqT.of upd_same) rfl ?_
      k_updF
      have hxl := hin i x hx
      refine ⟨x, rfl, by omega, (e1.trans (WP.Sm.of e2)).t _ hT0, fun H2 e3 => ?_⟩
      have em := (e1.trans (WP.Sm.of e2)).trans e3
      k_updF
      cases hb : MW.prn x with
      | false =>
        refine WP.brT rfl ?_
        refine WP.mko ?_
        k_updF
        exact raise_BP fun d H' e hd => kC i x hx hb hpr d H' (((WP.Sm.of e0).trans em).trans (WP.Sm.of e)) hd
      | true =>
        refine WP.brF rfl ?_
        k_updF
        refine ⟨em, ⟨_, _, rfl⟩, fun j y hj hy => ?_⟩
        rcases Nat.lt_or_ge j i with h | h
        · exact hpr j y h hy
        · obtain rfl : j = i := by omega
          rw [hx] at hy
          cases hy
          exact hb
    rintro σ' H1 ⟨e1, ⟨z2, z3, rfl⟩, hpr⟩
    rw [List.length_map] at hpr
    obtain ⟨os, ho1, ho2, ho3, ho4⟩ := kR fun x hx => by
      obtain ⟨j, hj, ej⟩ := List.getElem_of_mem hx
      exact hpr j x hj (by rw [← ej]; exact List.getElem?_eq_getElem hj)
    k_updF
    refine ⟨WP.sz (by decide), fun L hL => ?_⟩
    k_updF
    have hls1 := e1.lst hls
    have hls2 := WP.sql (WP.same_new (o := .lst []) hL) hls1
    refine ⟨p, _, rfl, hls2, WE1.for_enum1 (fun i σ' H' => Same H1 H' ∧ (∃ z2 z3, σ' = [some (.str (SX.S l)), some (.ref p), z2, z3, some (.ref L)]) ∧ ∃ (ts : List (List Tk)) (as : List Addr), ts.length = i ∧ os.take i = ts.map some ∧ H' L = some (.lst (as.map V.ref)) ∧ RtAt K H' as (rowsF 1 ts) ∧ as.length ≤ (ls.take i).flatten.length)
      ⟨WP.same_new hL, ⟨_, _, rfl⟩, [], [], rfl, rfl, upd_same, ⟨rfl, fun i a t h => by cases h⟩, Nat.zero_le _⟩ (fun i σ G _ h => WP.sql h.1 hls1) ?_ ?_⟩
    · rintro i y σ' H2 N hiy hN ⟨e2, ⟨z2, z3, rfl⟩, ts, as, hts, htk, hl2, hrt, has⟩
      obtain ⟨x, hx, rfl⟩ := gy hiy
      have hil : i < ls.length := (List.getElem?_eq_some_iff.mp hx).1
      have hio : os[i]? = some os[i] := List.getElem?_eq_getElem (by omega)
      generalize os[i] = o at hio
      have e3 : Same H2 (upd H2 N (.tup [.int ((i + 1 : Nat) : Int), .str (SX.S x)])) := WP.same_new hN
      refine WP.unT (SqT.of upd_same) rfl ?_
      generalize upd H2 N (.tup [.int ((i + 1 : Nat) : Int), .str (SX.S x)]) = H3 at e3 ⊢
      have hxl := hin i x hx
      have hl3 := e3 _ _ hl2
      have htake : ls.take (i + 1) = ls.take i ++ [x] := by rw [List.take_succ, hx]; rfl
      have hsum : (ls.take (i + 1)).flatten.length = (ls.take i).flatten.length + x.length := by
        rw [htake, List.flatten_append, List.length_append]
        show _ + (x ++ []).length = _
        rw [List.append_nil]
      have hle : (ls.take (i + 1)).flatten.length ≤ l.length := by
        have h := congrArg (fun q : List (List Nat) => q.flatten.length) (List.take_append_drop (i + 1) ls)
        have h : (ls.take (i + 1) ++ ls.drop (i + 1)).flatten.length = ls.flatten.length := h
        rw [List.flatten_append, List.length_append] at h
        omega
      k_updF
      refine WP.tyL (SqL.of hl3) ?_
      k_updF
      refine ⟨x, i + 1, o, rfl, by omega, ho2 i x o hx hio, fun on d H' e hd => ?_, fun us ou L2 bs H4 e4 hL2 nL2 hbl hbs => ?_⟩
      · subst on
        refine ho3 i hio (fun j hj hn => ?_) d H' (((WP.Sm.of e0).trans e1).trans (WP.Sm.of ((e2.trans e3).trans e))) hd
        have : (os.take i)[j]? = some none := by rw [List.getElem?_take_of_lt hj]; exact hn
        rw [htk, List.getElem?_map] at this
        cases et : ts[j]? with
        | none => rw [et] at this; cases this
        | some q => rw [et] at this; cases this
      · subst ou
        have hl4 := e4 _ _ hl3
        k_updF
        refine ⟨L, L2, _, _, rfl, rfl, hl4, hL2, by rw [List.length_map, List.length_map, sizeLine_eq]; omega, ?_⟩
        have app := RtAt.app (o := .lst (as.map V.ref ++ bs.map V.ref)) hrt (e3.trans e4) hl4 hbs
        k_updF
        refine ⟨WP.same_mut ((e2.trans e3).trans e4) hL, ⟨_, _, rfl⟩, ts ++ [us], as ++ bs, by rw [List.length_append, hts]; rfl, ?_, by rw [upd_same, List.map_append], ?_, by rw [List.length_append]; omega⟩
        · rw [List.take_succ, hio, htk, List.map_append]; rfl
        · rw [rowsF_app, hts, show 1 + i = i + 1 by omega]
          exact app
    rintro σ' H2 ⟨e2, ⟨y2, y3, rfl⟩, ts, as, hts, htk, hl2, hrt, has⟩
    rw [List.length_map] at hts htk
    k_updF
    refine ho4 ts ?_ L as H2 (((WP.Sm.of e0).trans e1).trans (WP.Sm.of e2)) hl2 hrt
    rw [← htk, List.take_of_length_le (by omega)]
end
abbrev s__law_same : Stmt := top 23
abbrev N__law_same : List Str := ["actual", "expected", "k"]
theorem sc__law_same : FnScope N__law_same ["actual", "expected"] (defScope s__law_same) := ⟨rfl, rfl, rfl, by decide +kernel, rfl, by decide +kernel, by decide +kernel⟩
/-- two values that are the same, d tuples deep at most -/
inductive EqV (K : PySem.W.Frag) (H : Hp) : Nat → V → V → Prop where
  | int {d : Nat} (i : Int) : EqV K H d (.int i) (.int i)
  | non {d : Nat} : EqV K H d .non .non
  | bl {d : Nat} (b : Bool) : EqV K H d (.bl b) (.bl b)
  | str {d : Nat} (z : Str) (h : WP.SOk z) : EqV K H d (.str z) (.str z)
  | tup {d : Nat} {p q : Addr} {xs ys : List V} (hp : SqT K H p xs) (hq : SqT K H q ys) (hl : xs.length = ys.length) (hz : ys.length ≤ 1000)
      (h : ∀ (i : Nat) x y, xs[i]? = some x → ys[i]? = some y → EqV K H d x y) : EqV K H (d + 1) (.ref p) (.ref q)
theorem pw_nil {K : PySem.W.Frag} {H : Hp} {d : Nat} : ∀ (i : Nat) x y, ([] : List V)[i]? = some x → ([] : List V)[i]? = some y → EqV K H d x y := fun i x y h _ => by simp at h
theorem pw_cons {K : PySem.W.Frag} {H : Hp} {d : Nat} {x y : V} {xs ys : List V} (h : EqV K H d x y) (t : ∀ (i : Nat) x y, xs[i]? = some x → ys[i]? = some y → EqV K H d x y) : ∀ (i : Nat) x' y', (x :: xs)[i]? = some x' → (y :: ys)[i]? = some y' → EqV K H d x' y' := fun i x' y' h1 h2 => by
  cases i with
  | zero => cases h1; cases h2; exact h
  | succ i => exact t i x' y' (by simpa using h1) (by simpa using h2)
def sp__law_same (K : PySem.W.Frag) (mg : WP.MG) : Nat → Sp
  | 0 => fun _ _ _ _ => False
  | n + 1 => fun vs H Q _ => ∃ x y, vs = [x, y] ∧ EqV K H n x y ∧ Q (.bl true) H
section
variable {P : Program} {w : World} {K : PySem.W.Frag} {mg : Str → Option Value} {base : Heap}
theorem ok__law_same {f : Addr} {fd : FuncData} (F : Fun K "_law_same" "_law_same" s__law_same f fd) (B : Blt w K mg)  {nn : Nat} (c__law_same : WP.Callee P w K mg base CX0 (0 + nn) "_law_same" ["actual", "expected"] (sp__law_same K mg nn)) : FnOk P w K mg base CX0 (0 + nn + 1) f fd ["actual", "expected"] (sp__law_same K mg (nn + 1)) := by
  refine F.ok sc__law_same (fun vs H Q E h => ?_) (fun cdv A outer s H vs Q E hr h => ?_)
  · first | (obtain ⟨_, rfl, _⟩ := h; rfl) | (obtain ⟨_, _, rfl, _⟩ := h; rfl) | (obtain ⟨_, _, _, rfl, _⟩ := h; rfl) | (obtain ⟨_, _, _, _, rfl, _⟩ := h; rfl) | (obtain ⟨_, _, _, _, _, rfl, _⟩ := h; rfl) | (obtain ⟨_, _, _, _, _, _, rfl, _⟩ := h; rfl) | (obtain ⟨_, _, _, _, _, _, _, rfl, _⟩ := h; rfl) | (obtain ⟨_, _, _, _, _, _, _, _, rfl, _⟩ := h; rfl) | (obtain ⟨rfl, _⟩ := h; rfl)
  · obtain ⟨x, y, rfl, he, k⟩ := h
    refine ⟨_, (pss_cons (ps_if (pt_val (pe_callB call_isi (by rfl) B.b_isinstance (by decide +kernel) (pa_cons (pv 1) (pa_cons (pe_bltn (v := .ty "tuple") rfl B.b_tuple (by decide +kernel) rfl) pa_nil)))) (pss_cons (ps_if (PW.pt (pw_or (pt_not (pt_val (pe_callB call_isi (by rfl) B.b_isinstance (by decide +kernel) (pa_cons (pv 0) (pa_cons (pe_bltn (v := .ty "tuple") rfl B.b_tuple (by decide +kernel) rfl) pa_nil))))) (pw_or1 (pt_cmpR op_ne (pe_callB WP.c_len (by rfl) B.b_len (by decide +kernel) (WP.pa_consN (pv 0) pa_nil)) (pe_callB WP.c_len (by rfl) B.b_len (by decide +kernel) (WP.pa_consN (pv 1) pa_nil)) (nomark _))))) (pss_one (ps_ret pe_bl)) pss_nil)
      (pss_cons (ps_for PassesOwn.never rfl (pi_range1 rfl B.b_range (WP.pa_consN (pe_callB WP.c_len (by rfl) B.b_len (by decide +kernel) (WP.pa_consN (pv 1) pa_nil)) pa_nil)) (pg_name (i := 2) sc__law_same.nd rfl (Or.inl rfl)) (pss_one (ps_if (pt_not (pt_val (WP.pe_callC (hl := by omega) c__law_same hr rfl pass0 (WP.pa_consN (pe_ix ix_tup (pv 0) (pv 2) (fun _ _ => rfl)) (WP.pa_consN (pe_ix ix_tup (pv 1) (pv 2) (fun _ _ => rfl)) pa_nil))))) (pss_one (ps_ret pe_bl)) pss_nil)))
      (pss_one (ps_ret pe_bl)))) pss_nil)
      (pss_cons (ps_if (pt_val (pe_callB call_isi (by rfl) B.b_isinstance (by decide +kernel) (pa_cons (pv 1) (pa_cons (pe_bltn (v := .ty "str") rfl B.b_str (by decide +kernel) rfl) pa_nil)))) (pss_one (ps_ret (pe_and (pe_callB call_isi (by rfl) B.b_isinstance (by decide +kernel) (pa_cons (pv 0) (pa_cons (pe_bltn (v := .ty "str") rfl B.b_str (by decide +kernel) rfl) pa_nil))) (pe_one (pe_cmpR (op_eqD hr.units) (pv 0) (pv 1) (nomark _)))))) pss_nil)
      (pss_cons (ps_if (pt_cmpR op_isN (pv 1) pe_non (nomark _)) (pss_one (ps_ret (pe_cmpR op_isN (pv 0) pe_non (nomark _)))) pss_nil)
      (pss_cons (ps_if (PW.pt (pw_or (pt_val (pe_callB call_isi (by rfl) B.b_isinstance (by decide +kernel) (pa_cons (pv 1) (pa_cons (pe_bltn (v := .ty "bool") rfl B.b_bool (by decide +kernel) rfl) pa_nil)))) (pw_or1 (pt_val (pe_callB call_isi (by rfl) B.b_isinstance (by decide +kernel) (pa_cons (pv 0) (pa_cons (pe_bltn (v := .ty "bool") rfl B.b_bool (by decide +kernel) rfl) pa_nil))))))) (pss_one (ps_ret (pe_and (pe_callB call_isi (by rfl) B.b_isinstance (by decide +kernel) (pa_cons (pv 1) (pa_cons (pe_bltn (v := .ty "bool") rfl B.b_bool (by decide +kernel) rfl) pa_nil))) (pe_and (pe_callB call_isi (by rfl) B.b_isinstance (by decide +kernel) (pa_cons (pv 0) (pa_cons (pe_bltn (v := .ty "bool") rfl B.b_bool (by decide +kernel) rfl) pa_nil))) (pe_one (pe_cmpR (op_eqD hr.units) (pv 0) (pv 1) (nomark _))))))) pss_nil)
      (pss_one (ps_ret (pe_and (pe_callB call_isi (by rfl) B.b_isinstance (by decide +kernel) (pa_cons (pv 0) (pa_cons (pe_bltn (v := .ty "int") rfl B.b_int (by decide +kernel) rfl) pa_nil))) (pe_one (pe_cmpR (op_eqD hr.units) (pv 0) (pv 1) (nomark _)))))))))), ?_⟩
    cases he with
    | int i =>
      k_updF
      refine WP.isN (.base (.int _)) ?_
      k_updF
      refine WP.brF rfl ?_
      k_updF
      refine WP.isN (.base (.int _)) ?_
      k_updF
      refine WP.brF rfl ?_
      k_updF
      refine ⟨rfl, ?_⟩
      k_updF
      refine WP.brF (decide_eq_false fun z => nomatch z) ?_
      k_updF
      refine WP.isN (.base (.int _)) ?_
      k_updF
      refine WP.brF rfl ?_
      k_updF
      refine WP.isN (.base (.int _)) ?_
      k_updF
      refine WP.brF rfl ?_
      k_updF
      refine WP.isY (.base (.int _)) ?_
      k_updF
      refine WP.brT rfl ?_
      k_updF
      refine WP.eqD (.int _) (.int _) ?_
      rw [SeqAt.eqv_refl _ (by rfl)]
      exact k
    | non =>
      k_updF
      refine WP.isN (.base .non) ?_
      k_updF
      refine WP.brF rfl ?_
      k_updF
      refine WP.isN (.base .non) ?_
      k_updF
      refine WP.brF rfl ?_
      k_updF
      refine ⟨rfl, ?_⟩
      k_updF
      refine WP.brT rfl ?_
      k_updF
      refine ⟨rfl, ?_⟩
      k_updF
      exact k
    | bl b =>
      k_updF
      refine WP.isN (.base (.bl _)) ?_
      k_updF
      refine WP.brF rfl ?_
      k_updF
      refine WP.isN (.base (.bl _)) ?_
      k_updF
      refine WP.brF rfl ?_
      k_updF
      refine ⟨rfl, ?_⟩
      k_updF
      refine WP.brF (decide_eq_false fun z => nomatch z) ?_
      k_updF
      refine WP.isY (.base (.bl _)) ?_
      k_updF
      refine WP.brT rfl ?_
      k_updF
      refine WP.brT rfl ?_
      k_updF
      refine WP.isY (.base (.bl _)) ?_
      k_updF
      refine WP.brT rfl ?_
      k_updF
      refine WP.isY (.base (.bl _)) ?_
      k_updF
      refine WP.brT rfl ?_
      k_updF
      refine WP.eqD (.bl _) (.bl _) ?_
      rw [SeqAt.eqv_refl _ (by rfl)]
      exact k
    | str z hz =>
      k_updF
      refine WP.isN (.base (.str _)) ?_
      k_updF
      refine WP.brF rfl ?_
      k_updF
      refine WP.isY (.base (.str _)) ?_
      k_updF
      refine WP.brT rfl ?_
      k_updF
      refine WP.isY (.base (.str _)) ?_
      k_updF
      refine WP.brT rfl ?_
      k_updF
      refine WP.eqD (.str _) (.str _) ?_ hz.sh hz.sh
      rw [SeqAt.eqv_refl _ hz]
      exact k
    | @tup d p q xs ys hp hq hl hz he =>
      k_updF
      refine WP.isY (WP.tyT hq) ?_
      k_updF
      refine WP.brT rfl ?_
      k_updF
      refine WP.isY (WP.tyT hp) ?_
      k_updF
      refine WP.brF rfl ?_
      k_updF
      refine WP.lenT hp ?_
      k_updF
      refine WP.lenT hq ?_
      k_updF
      refine WP.brF (by rw [hl]; simp) ?_
      k_updF
      refine WP.lenT hq ?_
      k_updF
      refine ⟨_, rfl, by omega, by omega, for_range (lo := 0) (n := _) (fun i σ' H' => H' = H ∧ ∃ z, σ' = [some (.ref p), some (.ref q), z]) ⟨rfl, none, rfl⟩ ?_ ?_⟩
      · rintro i σ' H' hi ⟨rfl, z, rfl⟩
        rw [Int.toNat_natCast] at hi
        rw [Int.zero_add]
        have ex := List.getElem?_eq_getElem (l := xs) (i := i) (by omega)
        have ey := List.getElem?_eq_getElem (l := ys) (i := i) (by omega)
        k_updF
        refine WP.ixT hp (atI_nat ex) ?_
        k_updF
        refine WP.ixT hq (atI_nat ey) ?_
        k_updF
        refine ⟨_, _, rfl, he i _ _ ex ey, ?_⟩
        k_updF
        refine WP.brF rfl ?_
        k_updF
        exact ⟨rfl, _, rfl⟩
      · rintro σ' H' ⟨rfl, z, rfl⟩
        k_updF
        exact k
theorem okH__law_same {f : Addr} {fd : FuncData} (F : Fun K "_law_same" "_law_same" s__law_same f fd) (B : Blt w K mg)  {nn : Nat} (ch__law_same : WP.CalleeH P w K mg base CX0 (0 + nn) "_law_same" ["actual", "expected"] (sp__law_same K mg nn)) : L2H.FnH P w K mg base CX0 (0 + nn + 1) f fd ["actual", "expected"] (sp__law_same K mg (nn + 1)) := by
  refine WP.okH F sc__law_same (fun vs H Q E h => ?_) (fun cdv A outer s H vs Q E p_ hc hr h => ?_)
  · first | (obtain ⟨_, rfl, _⟩ := h; rfl) | (obtain ⟨_, _, rfl, _⟩ := h; rfl) | (obtain ⟨_, _, _, rfl, _⟩ := h; rfl) | (obtain ⟨_, _, _, _, rfl, _⟩ := h; rfl) | (obtain ⟨_, _, _, _, _, rfl, _⟩ := h; rfl) | (obtain ⟨_, _, _, _, _, _, rfl, _⟩ := h; rfl) | (obtain ⟨_, _, _, _, _, _, _, rfl, _⟩ := h; rfl) | (obtain ⟨_, _, _, _, _, _, _, _, rfl, _⟩ := h; rfl) | (obtain ⟨rfl, _⟩ := h; rfl)
  · obtain ⟨x, y, rfl, he, k⟩ := h
    refine ⟨_, (pss_cons (ps_if (pt_val (pe_callB call_isi (by rfl) B.b_isinstance (by decide +kernel) (pa_cons (pv 1) (pa_cons (pe_bltn (v := .ty "tuple") rfl B.b_tuple (by decide +kernel) rfl) pa_nil)))) (pss_cons (ps_if (PW.pt (pw_or (pt_not (pt_val (pe_callB call_isi (by rfl) B.b_isinstance (by decide +kernel) (pa_cons (pv 0) (pa_cons (pe_bltn (v := .ty "tuple") rfl B.b_tuple (by decide +kernel) rfl) pa_nil))))) (pw_or1 (pt_cmpR op_ne (pe_callB WP.c_len (by rfl) B.b_len (by decide +kernel) (WP.pa_consN (pv 0) pa_nil)) (pe_callB WP.c_len (by rfl) B.b_len (by decide +kernel) (WP.pa_consN (pv 1) pa_nil)) (nomark _))))) (pss_one (ps_ret pe_bl)) pss_nil)
      (pss_cons (L2H.ps_forH (passes_of rfl) hc (L2H.pi_range1H rfl B.b_range (WP.pa_consN (pe_callB WP.c_len (by rfl) B.b_len (by decide +kernel) (WP.pa_consN (pv 1) pa_nil)) pa_nil)) (pg_name (i := 2) sc__law_same.nd rfl (Or.inl rfl)) (pss_one (ps_if (pt_not (pt_val (WP.pe_callHC (hl := by omega) ch__law_same hr hc rfl (WP.pa_consN (pe_ix ix_tup (pv 0) (pv 2) (fun _ _ => rfl)) (WP.pa_consN (pe_ix ix_tup (pv 1) (pv 2) (fun _ _ => rfl)) pa_nil))))) (pss_one (ps_ret pe_bl)) pss_nil)))
      (pss_one (ps_ret pe_bl)))) pss_nil)
      (pss_cons (ps_if (pt_val (pe_callB call_isi (by rfl) B.b_isinstance (by decide +kernel) (pa_cons (pv 1) (pa_cons (pe_bltn (v := .ty "str") rfl B.b_str (by decide +kernel) rfl) pa_nil)))) (pss_one (ps_ret (pe_and (pe_callB call_isi (by rfl) B.b_isinstance (by decide +kernel) (pa_cons (pv 0) (pa_cons (pe_bltn (v := .ty "str") rfl B.b_str (by decide +kernel) rfl) pa_nil))) (pe_one (pe_cmpR (op_eqD (WP.huH hr)) (pv 0) (pv 1) (nomark _)))))) pss_nil)
      (pss_cons (ps_if (pt_cmpR op_isN (pv 1) pe_non (nomark _)) (pss_one (ps_ret (pe_cmpR op_isN (pv 0) pe_non (nomark _)))) pss_nil)
      (pss_cons (ps_if (PW.pt (pw_or (pt_val (pe_callB call_isi (by rfl) B.b_isinstance (by decide +kernel) (pa_cons (pv 1) (pa_cons (pe_bltn (v := .ty "bool") rfl B.b_bool (by decide +kernel) rfl) pa_nil)))) (pw_or1 (pt_val (pe_callB call_isi (by rfl) B.b_isinstance (by decide +kernel) (pa_cons (pv 0) (pa_cons (pe_bltn (v := .ty "bool") rfl B.b_bool (by decide +kernel) rfl) pa_nil))))))) (pss_one (ps_ret (pe_and (pe_callB call_isi (by rfl) B.b_isinstance (by decide +kernel) (pa_cons (pv 1) (pa_cons (pe_bltn (v := .ty "bool") rfl B.b_bool (by decide +kernel) rfl) pa_nil))) (pe_and (pe_callB call_isi (by rfl) B.b_isinstance (by decide +kernel) (pa_cons (pv 0) (pa_cons (pe_bltn (v := .ty "bool") rfl B.b_bool (by decide +kernel) rfl) pa_nil))) (pe_one (pe_cmpR (op_eqD (WP.huH hr)) (pv 0) (pv 1) (nomark _))))))) pss_nil)
      (pss_one (ps_ret (pe_and (pe_callB call_isi (by rfl) B.b_isinstance (by decide +kernel) (pa_cons (pv 0) (pa_cons (pe_bltn (v := .ty "int") rfl B.b_int (by decide +kernel) rfl) pa_nil))) (pe_one (pe_cmpR (op_eqD (WP.huH hr)) (pv 0) (pv 1) (nomark _)))))))))), ?_⟩
    cases he with
    | int i =>
      k_updF
      refine WP.isN (.base (.int _)) ?_
      k_updF
      refine WP.brF rfl ?_
      k_updF
      refine WP.isN (.base (.int _)) ?_
      k_updF
      refine WP.brF rfl ?_
      k_updF
      refine ⟨rfl, ?_⟩
      k_updF
      refine WP.brF (decide_eq_false fun z => nomatch z) ?_
      k_updF
      refine WP.isN (.base (.int _)) ?_
      k_updF
      refine WP.brF rfl ?_
      k_updF
      refine WP.isN (.base (.int _)) ?_
      k_updF
      refine WP.brF rfl ?_
      k_updF
      refine WP.isY (.base (.int _)) ?_
      k_updF
      refine WP.brT rfl ?_
      k_updF
      refine WP.eqD (.int _) (.int _) ?_
      rw [SeqAt.eqv_refl _ (by rfl)]
      exact k
    | non =>
      k_updF
      refine WP.isN (.base .non) ?_
      k_updF
      refine WP.brF rfl ?_
      k_updF
      refine WP.isN (.base .non) ?_
      k_updF
      refine WP.brF rfl ?_
      k_updF
      refine ⟨rfl, ?_⟩
      k_updF
      refine WP.brT rfl ?_
      k_updF
      refine ⟨rfl, ?_⟩
      k_updF
      exact k
    | bl b =>
      k_updF
      refine WP.isN (.base (.bl _)) ?_
      k_updF
      refine WP.brF rfl ?_
      k_updF
      refine WP.isN (.base (.bl _)) ?_
      k_updF
      refine WP.brF rfl ?_
      k_updF
      refine ⟨rfl, ?_⟩
      k_updF
      refine WP.brF (decide_eq_false fun z => nomatch z) ?_
      k_updF
      refine WP.isY (.base (.bl _)) ?_
      k_updF
      refine WP.brT rfl ?_
      k_updF
      refine WP.brT rfl ?_
      k_updF
      refine WP.isY (.base (.bl _)) ?_
      k_updF
      refine WP.brT rfl ?_
      k_updF
      refine WP.isY (.base (.bl _)) ?_
      k_updF
      refine WP.brT rfl ?_
      k_updF
      refine WP.eqD (.bl _) (.bl _) ?_
      rw [SeqAt.eqv_refl _ (by rfl)]
      exact k
    | str z hz =>
      k_updF
      refine WP.isN (.base (.str _)) ?_
      k_updF
      refine WP.brF rfl ?_
      k_updF
      refine WP.isY (.base (.str _)) ?_
      k_updF
      refine WP.brT rfl ?_
      k_updF
      refine WP.isY (.base (.str _)) ?_
      k_updF
      refine WP.brT rfl ?_
      k_updF
      refine WP.eqD (.str _) (.str _) ?_ hz.sh hz.sh
      rw [SeqAt.eqv_refl _ hz]
      exact k
    | @tup d p q xs ys hp hq hl hz he =>
      k_updF
      refine WP.isY (WP.tyT hq) ?_
      k_updF
      refine WP.brT rfl ?_
      k_updF
      refine WP.isY (WP.tyT hp) ?_
      k_updF
      refine WP.brF rfl ?_
      k_updF
      refine WP.lenT hp ?_
      k_updF
      refine WP.lenT hq ?_
      k_updF
      refine WP.brF (by rw [hl]; simp) ?_
      k_updF
      refine WP.lenT hq ?_
      k_updF
      refine ⟨_, rfl, by omega, by omega, for_range (lo := 0) (n := _) (fun i σ' H' => H' = H ∧ ∃ z, σ' = [some (.ref p), some (.ref q), z]) ⟨rfl, none, rfl⟩ ?_ ?_⟩
      · rintro i σ' H' hi ⟨rfl, z, rfl⟩
        rw [Int.toNat_natCast] at hi
        rw [Int.zero_add]
        have ex := List.getElem?_eq_getElem (l := xs) (i := i) (by omega)
        have ey := List.getElem?_eq_getElem (l := ys) (i := i) (by omega)
        k_updF
        refine WP.ixT hp (atI_nat ex) ?_
        k_updF
        refine WP.ixT hq (atI_nat ey) ?_
        k_updF
        refine ⟨_, _, rfl, he i _ _ ex ey, ?_⟩
        k_updF
        refine WP.brF rfl ?_
        k_updF
        exact ⟨rfl, _, rfl⟩
      · rintro σ' H' ⟨rfl, z, rfl⟩
        k_updF
        exact k
end
abbrev s__law_raises : Stmt := top 26
abbrev N__law_raises : List Str := ["text", "line", "reason", "error"]
theorem sc__law_raises : FnScope N__law_raises ["text", "line", "reason"] (defScope s__law_raises) := ⟨rfl, rfl, rfl, by decide +kernel, rfl, by decide +kernel, by decide +kernel⟩
def sp__law_raises (K : PySem.W.Frag) (mg : WP.MG) : Sp := fun vs H Q _ => ∃ (l : List Nat) (n : Nat) (r : List Nat), vs = [.str (SX.S l), .int (n : Int), .str (SX.S r)] ∧ l.length ≤ 100000 ∧ (∀ c ∈ r, c < 128) ∧ GxR.TabG H (WP.tbl K "is_printable") ∧
  (∀ (Q' : VK) (E' : XK), BPm mg H E' (.int (n : Int)) (.str (SX.S r)) → sp_tokens K mg [.str (SX.S l)] H Q' E') ∧ ∀ H', Q (.bl true) H'
section
variable {P : Program} {w : World} {K : PySem.W.Frag} {mg : Str → Option Value} {base : Heap}
theorem ok__law_raises {f : Addr} {fd : FuncData} (F : Fun K "_law_raises" "_law_raises" s__law_raises f fd) (B : Blt w K mg) (c_tokens : WP.Callee P w K mg base (L2N.CX P w) 5 "tokens" ["text"] (sp_tokens K mg)) (c__law_same : WP.Callee P w K mg base CX0 3 "_law_same" ["actual", "expected"] (sp__law_same K mg 3)) (ch__law_same : WP.CalleeH P w K mg base CX0 3 "_law_same" ["actual", "expected"] (sp__law_same K mg 3)) : FnOk P w K mg base CX0 6 f fd ["text", "line", "reason"] (sp__law_raises K mg) := by
  refine F.ok sc__law_raises (fun vs H Q E h => ?_) (fun cdv A outer s H vs Q E hr h => ?_)
  · first | (obtain ⟨_, rfl, _⟩ := h; rfl) | (obtain ⟨_, _, rfl, _⟩ := h; rfl) | (obtain ⟨_, _, _, rfl, _⟩ := h; rfl) | (obtain ⟨_, _, _, _, rfl, _⟩ := h; rfl) | (obtain ⟨_, _, _, _, _, rfl, _⟩ := h; rfl) | (obtain ⟨_, _, _, _, _, _, rfl, _⟩ := h; rfl) | (obtain ⟨_, _, _, _, _, _, _, rfl, _⟩ := h; rfl) | (obtain ⟨_, _, _, _, _, _, _, _, rfl, _⟩ := h; rfl) | (obtain ⟨rfl, _⟩ := h; rfl)
  · obtain ⟨l, n, r, rfl, hl, hr2, hT, hk, k⟩ := h
    refine ⟨_, (pss_cons (L2N.ps_try_as (i := 3) (tb := fun W => (tDrop (tCallS (sp_tokens K mg) (WE W) (tCons (tVar 0) tNil)))) (ts := fun a cls d => (tSeq (tIfS (tOr (tB (tCB (WP.rIsS K a cls d) (tCons (tVar 3) (tCons (tC (.ref (WP.ca mg "BadPart"))) tNil)))) (tOr (tB (tCB (WP.rIsS K a cls d) (tCons (tVar 3) (tCons (tC (.ref (WP.ca mg "BadData"))) tNil)))) (tB (tCB (WP.rIsS K a cls d) (tCons (tVar 3) (tCons (tC (.ref (WP.ca mg "BadDecimal"))) tNil)))))) (tRet (tC (.bl false))) tNext) (tSeq (tIfS (tOr (tNot (tB (tCB (WP.rIsS K a cls d) (tCons (tVar 3) (tCons (tC (.ref (WP.ca mg "CardError"))) tNil))))) (tNot (tB (tCB (WP.rIsS K a cls d) (tCons (tVar 3) (tCons (tC (.ty "ValueError")) tNil)))))) (tRet (tC (.bl false))) tNext) (tRet (tCall (sp__law_same K mg 3) [] E0 (tCons (tTup (tCons (tXf a cls d (WP.ca mg "BadProgram") "line" (tVar 3)) (tCons (tXf a cls d (WP.ca mg "BadProgram") "reason" (tVar 3)) tNil))) (tCons (tTup (tCons (tVar 1) (tCons (tVar 2) tNil))) tNil))))))) (Wout := (fun _ _ _ _ => False)) rfl rfl sc__law_raises.nd rfl rfl ⟨rfl, by decide, Or.inl B.xi_BadProgram.m⟩ WP.takes0N
        (fun W pn xe tk _ => (pss_one (ps_expr (WP.pe_callSN c_tokens hr rfl (fun σ => L2N.passAt tk σ) (WP.pa_consN (pv 0) pa_nil)))))
        (fun a oe cls d pn hz hf => (pss_cons (ps_if (PW.pt (pw_or (pt_val (pe_callB (WP.call_isS hz.zc hf) (by rfl) B.b_isinstance (by decide +kernel) (pa_cons (pv 3) (pa_cons (pe_glob rfl B.xi_BadPart.m rfl) pa_nil)))) (pw_or (pt_val (pe_callB (WP.call_isS hz.zc hf) (by rfl) B.b_isinstance (by decide +kernel) (pa_cons (pv 3) (pa_cons (pe_glob rfl B.xi_BadData.m rfl) pa_nil)))) (pw_or1 (pt_val (pe_callB (WP.call_isS hz.zc hf) (by rfl) B.b_isinstance (by decide +kernel) (pa_cons (pv 3) (pa_cons (pe_glob rfl B.e_BadDecimal.m rfl) pa_nil)))))))) (pss_one (ps_ret pe_bl)) pss_nil)
      (pss_cons (ps_if (PW.pt (pw_or (pt_not (pt_val (pe_callB (WP.call_isS hz.zc hf) (by rfl) B.b_isinstance (by decide +kernel) (pa_cons (pv 3) (pa_cons (pe_glob rfl B.e_CardError.m rfl) pa_nil))))) (pw_or1 (pt_not (pt_val (pe_callB (WP.call_isS hz.zc hf) (by rfl) B.b_isinstance (by decide +kernel) (pa_cons (pv 3) (pa_cons (pe_bltn (v := .ty "ValueError") rfl B.b_ValueError (by decide +kernel) rfl) pa_nil)))))))) (pss_one (ps_ret pe_bl)) pss_nil)
      (pss_one (ps_ret (WP.pe_callHC ch__law_same (L2H.roomH_mark hr _) (WP.hotS hz hf) rfl (WP.pa_consN (pe_tup (WP.pa_consN (pe_xf B.xi_BadProgram.x (B.xi_BadProgram.n _ (by decide +kernel)) hz.zc hf (pv 3)) (WP.pa_consN (pe_xf B.xi_BadProgram.x (B.xi_BadProgram.n _ (by decide +kernel)) hz.zc hf (pv 3)) pa_nil))) (WP.pa_consN (pe_tup (WP.pa_consN (pv 1) (WP.pa_consN (pv 2) pa_nil))) pa_nil)))))))))
      (pss_one (ps_ret pe_bl))), ?_⟩
    k_updF
    refine WP.callS ?_
    k_updF
    refine hk _ _ (fun D H' sm hD => ?_)
    refine ⟨true, B.xi_BadProgram.catches B.s_BadProgram_BadProgram, fun _ a na => ?_, fun z => Bool.noConfusion z⟩
    k_updF
    refine WP.isS B.xi_BadProgram.c hD B.i_BadProgram_BadPart ?_
    refine ⟨_, rfl, iteF ?_⟩
    k_updF
    refine WP.isS B.xi_BadProgram.c hD B.i_BadProgram_BadData ?_
    refine ⟨_, rfl, iteF ?_⟩
    k_updF
    refine WP.isS B.xi_BadProgram.c hD B.i_BadProgram_BadDecimal ?_
    refine ⟨_, rfl, iteF ?_⟩
    k_updF
    refine WP.isS B.xi_BadProgram.c hD B.i_BadProgram_CardError ?_
    refine ⟨_, rfl, ?_⟩
    rw [if_neg (show ¬ (!true) = true by decide)]
    k_updF
    refine WP.isST B.xi_BadProgram.c hD B.t_BadProgram_ValueError ?_
    refine ⟨_, rfl, ?_⟩
    rw [if_neg (show ¬ (!true) = true by decide)]
    k_updF
    refine ⟨.ref a, rfl, rfl, rfl, D, _, _, rfl, hD, rfl, ?_⟩
    k_updF
    refine ⟨.ref a, rfl, rfl, rfl, D, _, _, rfl, hD, rfl, ?_⟩
    k_updF
    refine ⟨WP.sz (show 2 ≤ 1000000 by decide), fun p1 h1 => ?_⟩
    k_updF
    refine ⟨WP.sz (show 2 ≤ 1000000 by decide), fun p2 h2 => ?_⟩
    k_updF
    refine ⟨_, _, rfl, .tup (SqT.of (WP.same_new h2 _ _ upd_same)) (SqT.of upd_same) rfl (show 2 ≤ 1000 by decide) (pw_cons (.int _) (pw_cons (.str _ (WP.sok_S fun c hc => Nat.lt_trans (hr2 c hc) (by decide))) pw_nil)), ?_⟩
    exact k _
end
abbrev s_quoted : Stmt := top 15
abbrev N_quoted : List Str := ["string"]
theorem sc_quoted : FnScope N_quoted ["string"] (defScope s_quoted) := ⟨rfl, rfl, rfl, by decide +kernel, rfl, by decide +kernel, by decide +kernel⟩
def sp_quoted (K : PySem.W.Frag) (mg : WP.MG) : Sp := fun vs H Q _ => ∃ (l : List Nat), vs = [.str (SX.S l)] ∧ l.length ≤ 1000 ∧ Q (.str (SX.S (39 :: (MK.dq l ++ [39])))) H
section
variable {P : Program} {w : World} {K : PySem.W.Frag} {mg : Str → Option Value} {base : Heap}
theorem ok_quoted {f : Addr} {fd : FuncData} (F : Fun K "quoted" "quoted" s_quoted f fd) (B : Blt w K mg)  : FnOk P w K mg base CX0 1 f fd ["string"] (sp_quoted K mg) := by
  refine F.ok sc_quoted (fun vs H Q E h => ?_) (fun cdv A outer s H vs Q E hr h => ?_)
  · first | (obtain ⟨_, rfl, _⟩ := h; rfl) | (obtain ⟨_, _, rfl, _⟩ := h; rfl) | (obtain ⟨_, _, _, rfl, _⟩ := h; rfl) | (obtain ⟨_, _, _, _, rfl, _⟩ := h; rfl) | (obtain ⟨_, _, _, _, _, rfl, _⟩ := h; rfl) | (obtain ⟨_, _, _, _, _, _, rfl, _⟩ := h; rfl) | (obtain ⟨_, _, _, _, _, _, _, rfl, _⟩ := h; rfl) | (obtain ⟨_, _, _, _, _, _, _, _, rfl, _⟩ := h; rfl) | (obtain ⟨rfl, _⟩ := h; rfl)
  · obtain ⟨l, rfl, hl, k⟩ := h
    refine ⟨_, (pss_one (ps_ret (pe_op WP.op_addS (pe_op WP.op_addS (WP.pe_const (by rfl) B.c_QUOTE) (WR.pe_replK (pv 0) (by rfl) (by rfl) B.rp_QUOTE_DOUBLED_QUOTE)) (WP.pe_const (by rfl) B.c_QUOTE)))), ?_⟩
    have hq := MK.dq_len l
    k_updF
    refine WR.repl ?_
    k_updF
    refine ⟨_, rfl, by rw [SX.S_len, show ("''" : Str).length = 2 from by decide +kernel]; omega, ?_⟩
    rw [MK.repl_dq]
    refine WP.catS (a := [39]) (b := MK.dq l) ?_ (by rw [sizeLine_eq]; show 1 + _ ≤ _; omega)
    k_updF
    refine WP.catS (a := [39] ++ MK.dq l) (b := [39]) ?_ (by rw [sizeLine_eq, List.length_append]; show 1 + _ + 1 ≤ _; omega)
    exact k
end
abbrev s_law : Stmt := top 32
abbrev N_law : List Str := ["script", "draws", "count", "faulty", "string", "text", "expected", "faults", "filled", "found", "k"]
theorem sc_law : FnScope N_law ["script"] (defScope s_law) := ⟨rfl, rfl, rfl, by decide +kernel, rfl, by decide +kernel, by decide +kernel⟩
theorem tab_sx {d : Addr} {H H' : Hp} {ys : List V} {t : Addr} (h : GxR.TabG H t) (e : WP.Sx d H H') (hd : H d = some (.lst ys)) : GxR.TabG H' t := by
  obtain ⟨ps, h1, h2⟩ := h
  exact ⟨ps, e _ _ (fun z => by rw [z, hd] at h1; cases h1) h1, h2⟩
theorem tab_same {H H' : Hp} {t : Addr} (h : GxR.TabG H t) (e : Same H H') : GxR.TabG H' t := by
  obtain ⟨ps, h1, h2⟩ := h
  exact ⟨ps, e _ _ h1, h2⟩
theorem sp_tok_bad {K : PySem.W.Frag} {mg : WP.MG} {H : Hp} {P : List Pc} (t : TxOk P 40000) (hT : GxR.TabG H (WP.tbl K "is_printable")) {k r : Nat} (hm : (k, r) ∈ flts 1 P) (hmin : ∀ g ∈ flts 1 P, k < g.1 ∨ (k = g.1 ∧ r ≤ g.2)) (Q : VK) (E : XK) (hB : BPm mg H E (.int (r : Int)) (RSN k)) :
    sp_tokens K mg [.str (SX.S (rend P))] H Q E := by
  have tl := t.len
  have hpl := prn_lines P t.ok 1
  have hr1 := flts_ge 1 P _ hm
  have hr2 := flts_le 1 P _ hm
  have hll := lf_len P t.ok
  have hr1 : 1 ≤ r := hr1
  have hr2' : r ≤ 1 + nls P := hr2.1
  have hk1 : k ≤ 1 := hr2.2
  obtain ⟨y, hy⟩ : ∃ y, (lf (rend P))[r - 1]? = some y := ⟨_, List.getElem?_eq_getElem (by rw [hll]; omega)⟩
  refine ⟨rend P, rfl, by omega, hT, fun h => absurd tl (by omega), fun _ => ⟨fun i x hx hp hj => ?_, fun ha => ?_⟩⟩
  · rw [lns_lf] at hx
    have hf := (hpl i x hx).mp hp
    have hk : k = 0 ∧ r ≤ 1 + i := by
      rcases hmin _ hf with z | z
      · exact absurd z (Nat.not_lt_zero _)
      · exact z
    have hri : r = i + 1 := by
      rcases Nat.lt_or_ge (r - 1) i with z | z
      · have h1 := hj (r - 1) y z (by rw [lns_lf]; exact hy)
        have h2 := (hpl (r - 1) y hy).mpr (by rw [show 1 + (r - 1) = r by omega, ← hk.1]; exact hm)
        rw [h1] at h2; cases h2
      · omega
    rw [← hri]
    have : RSN k = CHR := if_pos hk.1
    rw [← this]; exact hB
  · have hk : k = 1 := by
      rcases Nat.eq_zero_or_pos k with z | z
      · exfalso
        have h2 := (hpl (r - 1) y hy).mpr (by rw [show 1 + (r - 1) = r by omega, ← z]; exact hm)
        have h1 := ha y (by rw [lns_lf]; exact List.mem_of_getElem? hy)
        rw [h1] at h2; cases h2
      · omega
    have h0 : ∀ f ∈ flts 1 P, f.1 ≠ 0 := fun f hf z => by
      rcases hmin f hf with q | q <;> omega
    obtain ⟨os, I⟩ := outs P t.ok t.adj 1 h0
    have hbad : os[r - 1]? = some none := (I.n (r - 1)).mpr ⟨k, by rw [show 1 + (r - 1) = r by omega]; exact hm⟩
    refine ⟨os, by rw [lns_lf]; exact I.l, fun i x o hx ho => by rw [lns_lf] at hx; exact I.g i x o hx ho [], fun i hi hj => ?_, fun ts hts => ?_⟩
    · obtain ⟨k', hk'⟩ := (I.n i).mp hi
      have hle : r ≤ 1 + i := by
        have h2 := (flts_le 1 P _ hk').2
        have h2 : k' ≤ 1 := h2
        rcases hmin _ hk' with z | z
        · have z : k < k' := z
          omega
        · exact z.2
      have hri : r = i + 1 := by
        rcases Nat.lt_or_ge (r - 1) i with z | z
        · exact absurd hbad (hj _ z)
        · omega
      rw [← hri]
      have : RSN k = QUO := if_neg (by omega)
      rw [← this]; exact hB
    · rw [hts, List.getElem?_map] at hbad
      cases e : ts[r - 1]? with
      | none => rw [e] at hbad; cases hbad
      | some z => rw [e] at hbad; cases hbad
theorem sp_tok_good {K : PySem.W.Frag} {mg : WP.MG} {H : Hp} {P : List Pc} (t : TxOk P 40000) (hT : GxR.TabG H (WP.tbl K "is_printable")) (hm : flts 1 P = []) (Q : VK) (E : XK)
    (hQ : ∀ (L : Addr) (as : List Addr) (H' : Hp), WP.Sm H H' → H' L = some (.lst (as.map V.ref)) → RtAt K H' as (exps 1 P) → Q (.ref L) H') : sp_tokens K mg [.str (SX.S (rend P))] H Q E := by
  have tl := t.len
  have hpl := prn_lines P t.ok 1
  refine ⟨rend P, rfl, by omega, hT, fun h => absurd tl (by omega), fun _ => ⟨fun i x hx hp hj => ?_, fun ha => ?_⟩⟩
  · rw [lns_lf] at hx
    have hf := (hpl i x hx).mp hp
    rw [hm] at hf; cases hf
  · obtain ⟨os, I⟩ := outs P t.ok t.adj 1 (by rw [hm]; exact fun f hf => nomatch hf)
    refine ⟨os, by rw [lns_lf]; exact I.l, fun i x o hx ho => by rw [lns_lf] at hx; exact I.g i x o hx ho [], fun i hi hj => ?_, fun ts hts L as H' sm hL hR => ?_⟩
    · obtain ⟨k', hk'⟩ := (I.n i).mp hi
      rw [hm] at hk'; cases hk'
    · rw [I.t ts hts] at hR
      exact hQ L as H' sm hL hR
theorem ex_chr : ∀ (r : Nat) (P : List Pc), (∀ x ∈ P, x.Ok) → ∀ t ∈ exps r P, ∀ c ∈ t.2.2, c ≤ 126
  | _, [], _, _, h => by cases h
  | r, x :: P, ok, t, h => by
    have ok2 := fun y hy => ok y (List.mem_cons_of_mem _ hy)
    have okx := ok x List.mem_cons_self
    cases x with
    | sp c => exact ex_chr _ P ok2 t h
    | bd i w => exact ex_chr _ P ok2 t h
    | wd w =>
      rcases List.mem_cons.mp h with e | h
      · rw [e]; exact fun c hc => (okx.2.2 c hc).2.1
      · exact ex_chr _ P ok2 t h
    | st q =>
      rcases List.mem_cons.mp h with e | h
      · rw [e]; exact fun c hc => (okx c hc).2.1
      · exact ex_chr _ P ok2 t h
theorem EtAt.at {K : PySem.W.Frag} {H : Hp} {xs : List V} {ts : List (Nat × Tk)} (h : EtAt K H xs ts) : ∀ (i : Nat) (y : V), xs[i]? = some y → ∃ b t, y = .ref b ∧ ts[i]? = some t ∧ H b = some (.tup (t.2.vs (t.1 : Int))) := by
  induction h with
  | nil => intro i y h; cases h
  | cons z _ ih =>
    intro i y h
    cases i with
    | zero => cases h; exact ⟨_, _, rfl, rfl, z⟩
    | succ i => exact ih i y (by simpa using h)
theorem sp_tok_big {K : PySem.W.Frag} {mg : WP.MG} {H : Hp} {l : List Nat} (h1 : 40000 < l.length) (h2 : l.length ≤ 100000) (hT : GxR.TabG H (WP.tbl K "is_printable")) (Q : VK) (E : XK) (hB : BPm mg H E (.int 0) (.str (SX.S [115, 105, 122, 101]))) : sp_tokens K mg [.str (SX.S l)] H Q E :=
  ⟨l, rfl, h2, hT, fun _ => hB, fun h => absurd h1 (by omega)⟩
def sp_law (K : PySem.W.Frag) : Sp := fun vs H Q _ => ∃ (a : Addr) (ns : List Int), vs = [.ref a] ∧ SqL K H a (ns.map V.int) ∧ ns.length ≤ 63 ∧ GxR.TabG H (WP.tbl K "is_printable") ∧ ∀ H', Q (.bl true) H'
section
variable {P : Program} {w : World} {K : PySem.W.Frag} {mg : Str → Option Value} {base : Heap}
theorem ok_law {f : Addr} {fd : FuncData} (F : Fun K "law" "law" s_law f fd) (B : Blt w K mg) (c__law_draws : WP.Callee P w K mg base CX0 1 "_law_draws" ["script"] (sp__law_draws K mg)) (c__law_draw : WP.Callee P w K mg base CX0 1 "_law_draw" ["draws", "limit"] (sp__law_draw K mg)) (c__law_characters : WP.Callee P w K mg base CX0 2 "_law_characters" ["draws", "most"] (sp__law_characters K mg)) (c__law_build : WP.Callee P w K mg base CX0 4 "_law_build" ["draws", "count", "faulty"] (sp__law_build K mg)) (c_tokens : WP.Callee P w K mg base (L2N.CX P w) 5 "tokens" ["text"] (sp_tokens K mg)) (c__law_same : WP.Callee P w K mg base CX0 3 "_law_same" ["actual", "expected"] (sp__law_same K mg 3)) (c__law_raises : WP.Callee P w K mg base CX0 6 "_law_raises" ["text", "line", "reason"] (sp__law_raises K mg)) (c_quoted : WP.Callee P w K mg base CX0 1 "quoted" ["string"] (sp_quoted K mg)) (c__law_quoted : WP.Callee P w K mg base CX0 1 "_law_quoted" ["string"] (sp__law_quoted K mg)) : FnOk P w K mg base CX0 7 f fd ["script"] (sp_law K) := by
  refine F.ok sc_law (fun vs H Q E h => ?_) (fun cdv A outer s H vs Q E hr h => ?_)
  · first | (obtain ⟨_, rfl, _⟩ := h; rfl) | (obtain ⟨_, _, rfl, _⟩ := h; rfl) | (obtain ⟨_, _, _, rfl, _⟩ := h; rfl) | (obtain ⟨_, _, _, _, rfl, _⟩ := h; rfl) | (obtain ⟨_, _, _, _, _, rfl, _⟩ := h; rfl) | (obtain ⟨_, _, _, _, _, _, rfl, _⟩ := h; rfl) | (obtain ⟨_, _, _, _, _, _, _, rfl, _⟩ := h; rfl) | (obtain ⟨_, _, _, _, _, _, _, _, rfl, _⟩ := h; rfl) | (obtain ⟨rfl, _⟩ := h; rfl)
  · obtain ⟨a, ns, rfl, hs, hl, hT, k⟩ := h
    refine ⟨_, (pss_cons (ps_set (i := 1) sc_law.nd rfl (Or.inr rfl) (WP.pe_callC c__law_draws hr rfl pass0 (WP.pa_consN (pv 0) pa_nil)))
      (pss_cons (ps_set (i := 2) sc_law.nd rfl (Or.inr rfl) (WP.pe_callC c__law_draw hr rfl pass0 (WP.pa_consN (pv 1) (WP.pa_consN pe_int pa_nil))))
      (pss_cons (ps_set (i := 3) sc_law.nd rfl (Or.inl rfl) (pe_lst pa_nil))
      (Evl.pss_cut (ps_if (pt_cmpR op_eq (WP.pe_callC c__law_draw hr rfl pass0 (WP.pa_consN (pv 1) (WP.pa_consN pe_int pa_nil))) pe_int (nomark _)) (pss_one (ps_setLc (i := 3) (own := [("k", 10)]) (g := gName 10) (tt := tYes) rfl sc_law.nd rfl rfl (sw_true rfl rfl rfl (by decide +kernel)) (pi_range1 rfl B.b_range (WP.pa_consN (pe_op op_add pe_int (WP.pe_callC c__law_draw hr rfl pass0 (WP.pa_consN (pv 1) (WP.pa_consN pe_int pa_nil)))) pa_nil)) (blkOk_by (own := [("k", 10)]) (N := N_law) (sc := defScope s_law) (by decide +kernel)) (fun _ _ _ _ _ => pg_name (i := 10) sc_law.nd rfl (Or.inl rfl)) (fun _ _ _ _ _ => pts_nil) (fun _ _ _ _ _ => (WP.pe_callC c__law_draw hr rfl pass0 (WP.pa_consN (pv 1) (WP.pa_consN (pe_op op_add (pv 2) pe_int) pa_nil)))))) pss_nil)
      (pss_cons (ps_set (i := 4) sc_law.nd rfl (Or.inl rfl) (WP.pe_callC c__law_characters hr rfl pass0 (WP.pa_consN (pv 1) (WP.pa_consN pe_int pa_nil))))
      (pss_cons (ps_if (pt_not (pt_val (WP.pe_callC c__law_same hr rfl pass0 (WP.pa_consN (WP.pe_callC c_quoted hr rfl pass0 (WP.pa_consN (pv 4) pa_nil)) (WP.pa_consN (WP.pe_callC c__law_quoted hr rfl pass0 (WP.pa_consN (pv 4) pa_nil)) pa_nil))))) (pss_one (ps_ret pe_bl)) pss_nil)
      (pss_cons (ps_asg (WP.pe_callC c__law_build hr rfl pass0 (WP.pa_consN (pv 1) (WP.pa_consN (pv 2) (WP.pa_consN (pv 3) pa_nil)))) (pg_tup (by rfl) (pgs_cons (pg_name (i := 5) sc_law.nd rfl (Or.inl rfl)) (pgs_cons (pg_name (i := 6) sc_law.nd rfl (Or.inl rfl)) (pgs_cons (pg_name (i := 7) sc_law.nd rfl (Or.inl rfl)) pgs_nil)))))
      (pss_cons (ps_set (i := 8) sc_law.nd rfl (Or.inl rfl) (WP.pe_callC c__law_draw hr rfl pass0 (WP.pa_consN (pv 1) (WP.pa_consN pe_int pa_nil))))
      (Evl.pss_cut (ps_if (pt_cmpR op_lt (pv 8) pe_int (nomark _)) (pss_one (ps_set (i := 5) sc_law.nd rfl (Or.inl rfl) (pe_op WP.op_addS (pv 5) (pe_op WP.op_mul_str (WP.pe_strL [32] (by decide +kernel)) (pe_op op_sub (pe_op op_add pe_int (pv 8)) (pe_callB WP.c_len (by rfl) B.b_len (by decide +kernel) (WP.pa_consN (pv 5) pa_nil))))))) pss_nil)
      (pss_cons (ps_if (pt_cmpR op_eq (pv 8) pe_int (nomark _)) (pss_one (ps_set (i := 7) sc_law.nd rfl (Or.inl rfl) (pe_lst (WP.pa_consN (pe_tup (WP.pa_consN pe_int (WP.pa_consN pe_int (WP.pa_consN (WP.pe_strL [115, 105, 122, 101] (by decide +kernel)) pa_nil)))) pa_nil)))) pss_nil)
      (pss_cons (ps_if (pt_cmpR op_gt (pe_callB WP.c_len (by rfl) B.b_len (by decide +kernel) (WP.pa_consN (pv 7) pa_nil)) pe_int (nomark _)) (pss_one (ps_ret (WP.pe_callC c__law_raises hr rfl pass0 (WP.pa_consN (pv 5) (WP.pa_consN (pe_ix ix_tup (pe_ix ix_list (pv 7) pe_int (fun _ _ => rfl)) pe_int (fun _ _ => rfl)) (WP.pa_consN (pe_ix ix_tup (pe_ix ix_list (pv 7) pe_int (fun _ _ => rfl)) pe_int (fun _ _ => rfl)) pa_nil)))))) pss_nil)
      (pss_cons (ps_set (i := 9) sc_law.nd rfl (Or.inl rfl) (WP.pe_callC c_tokens hr rfl WP.pass0N (WP.pa_consN (pv 5) pa_nil)))
      (pss_one (ps_ret (pe_and (pe_callB call_isi (by rfl) B.b_isinstance (by decide +kernel) (pa_cons (pv 9) (pa_cons (pe_bltn (v := .ty "list") rfl B.b_list (by decide +kernel) rfl) pa_nil))) (pe_one (WP.pe_callC c__law_same hr rfl pass0 (WP.pa_consN (pe_callTy WP.c_tupOf (by rfl) B.b_tuple (by decide +kernel) (WP.pa_consN (pv 9) pa_nil)) (WP.pa_consN (pe_callTy WP.c_tupOf (by rfl) B.b_tuple (by decide +kernel) (WP.pa_consN (pv 6) pa_nil)) pa_nil))))))))))))))))))), ?_⟩
    k_updF
    refine ⟨a, ns, rfl, hs, fun d z H1 hz hz0 hd0 e1 hd => ?_⟩
    have hT := tab_same hT e1
    k_updF
    refine ⟨d, z, _, rfl, by decide, WP.bt8 (by decide), hd, fun cv H2 c0 c1 s2 hd2 => ?_⟩
    obtain ⟨yd, hyd⟩ := hd.lst
    have hT := tab_sx hT s2 hyd
    obtain ⟨cnt, rfl⟩ : ∃ c : Nat, cv = (c : Int) := ⟨cv.toNat, by omega⟩
    k_updF
    refine ⟨Nat.zero_le _, fun p hp => ?_⟩
    have e3 := WP.same_new (o := .lst []) hp
    have hd3 := hd2.same e3
    have hT := tab_same hT e3
    have np := (hd2.new hp).1
    have gp : (upd H2 p (.lst [])) p = some (.lst (WP.iL [])) := upd_same
    generalize upd H2 p _ = H3 at hd3 hT gp ⊢
    clear s2 hd2 hd hyd hp e3 hs
    k_updF
    refine WP.cut (fun σ' H' => ∃ (q : Addr) (fs : List Nat) (z10 : Option V), σ' = [some (.ref a), some (.ref d), some (.int (cnt : Int)), some (.ref q), none, none, none, none, none, none, z10] ∧ DS K H' d z ∧ GxR.TabG H' (WP.tbl K "is_printable") ∧ q ≠ d ∧ H' q = some (.lst (WP.iL fs))) ?_ ?_
    · k_updF
      refine ⟨d, z, _, rfl, by decide, WP.bt8 (by decide), hd3, fun v H4 v0 v1 s4 hd4 => ?_⟩
      obtain ⟨yd, hyd⟩ := hd3.lst
      have hT := tab_sx hT s4 hyd
      have gp := s4 _ _ np gp
      k_updF
      refine WP.br (fun c => ?_) (fun c => ?_)
      · k_updF
        refine ⟨d, z, _, rfl, by decide, WP.bt8 (by decide), hd4, fun w H5 w0 w1 s5 hd5 => ?_⟩
        obtain ⟨yd, hyd⟩ := hd4.lst
        have hT := tab_sx hT s5 hyd
        obtain ⟨m, rfl⟩ : ∃ m : Nat, w = (m : Int) := ⟨w.toNat, by omega⟩
        k_updF
        refine ⟨_, rfl, by omega, by omega, fun D hD => lc_range (lo := 0) (n := _) (fun j Hx => DS K Hx d z ∧ GxR.TabG Hx (WP.tbl K "is_printable") ∧ ∃ fs : List Nat, Hx D = some (.lst (WP.iL fs)) ∧ fs.length = j) ⟨hd5.same (WP.same_new hD), tab_same hT (WP.same_new hD), [], upd_same, rfl⟩ ?_ ?_⟩
        · have nD := hd5.new hD
          rintro j Hx hj ⟨hdx, hTx, fs, gD, lf⟩
          obtain ⟨yd, hyd⟩ := hdx.lst
          k_updF
          refine ⟨rfl, ?_⟩
          refine WP.yes ?_
          k_updF
          refine ⟨d, z, _, rfl, by omega, WP.bt8 (by omega), hdx, fun u H6 u0 u1 s6 hd6 => ?_⟩
          have gD := s6 _ _ nD.1 gD
          have hT6 := tab_sx hTx s6 hyd
          obtain ⟨uu, rfl⟩ : ∃ uu : Nat, u = (uu : Int) := ⟨u.toNat, by omega⟩
          refine ⟨_, gD, by unfold WP.iL; rw [List.length_map, sizeLine_eq]; omega, hd6.mut nD, tab_sx (d := D) hT6 WP.Sx.upd gD, fs ++ [uu], by rw [upd_same, WP.app_iL], by rw [List.length_append, lf]; rfl⟩
        rintro H6 ⟨hd6, hT6, fs, gD, _⟩
        k_updF
        exact ⟨D, fs, _, rfl, hd6, hT6, (hd5.new hD).1, gD⟩
      · k_updF
        exact ⟨p, [], _, rfl, hd4, hT, np, gp⟩
    clear hd3 hT np gp
    rintro σ' H4 ⟨q, fs, z10, rfl, hd, hT, nq, gq⟩
    obtain ⟨yd, hyd⟩ := hd.lst
    k_updF
    refine ⟨d, z, 60, rfl, by decide, hd, fun st H5 hst hsc s5 hd5 => ?_⟩
    have hT := tab_sx hT s5 hyd
    have gq := s5 _ _ nq gq
    obtain ⟨yd, hyd⟩ := hd5.lst
    k_updF
    refine ⟨st, rfl, by omega, ?_⟩
    k_updF
    refine ⟨st, rfl, by omega, ?_⟩
    k_updF
    refine ⟨_, _, rfl, .str _ (WP.sok_S fun c hc => ?_), ?_⟩
    · rcases List.mem_cons.mp hc with e | hc
      · rw [e]; decide
      · rcases List.mem_append.mp hc with hc | hc
        · have := hsc c (dq_mem c hc); omega
        · rw [List.mem_singleton.mp hc]; decide
    refine ⟨_, rfl, ?_⟩
    rw [if_neg (show ¬ (!true) = true by decide)]
    k_updF
    refine ⟨d, z, cnt, q, fs, rfl, by omega, gq, nq, hd5, fun P T E F es ys H6 s6 hd6 t xl nEd nFd hTt gE eE gF lF mF => ?_⟩
    have hT := tab_sx hT s6 hyd
    k_updF
    refine WP.unT hTt rfl ?_
    k_updF
    refine ⟨d, z, _, rfl, by decide, WP.bt8 (by decide), hd6, fun fv H7 f0 f1 s7 hd7 => ?_⟩
    obtain ⟨yd, hyd⟩ := hd6.lst
    have hT := tab_sx hT s7 hyd
    have gE := s7 _ _ nEd gE
    have eE := eE.map (tup_sx s7 hyd)
    have gF := s7 _ _ nFd gF
    have mF : ∀ y0, ys[0]? = some y0 → ∃ a k r, y0 = .ref a ∧ (k, r) ∈ flts 1 P ∧ H7 a = some (.tup [.int (k : Int), .int (r : Int), RSN k]) ∧ ∀ g ∈ flts 1 P, k < g.1 ∨ (k = g.1 ∧ r ≤ g.2) := fun y0 hy0 => by
      obtain ⟨a, kk, r, h1, h2, h3, h4⟩ := mF y0 hy0
      exact ⟨a, kk, r, h1, h2, tup_sx s7 hyd _ _ h3, h4⟩
    have tl := t.len
    clear s7 hd6 s6 hd5 hTt gq hyd
    k_updF
    refine WP.cut (fun σ' H' => H' = H7 ∧ ∃ l : List Nat, σ' = [some (.ref a), some (.ref d), some (.int (cnt : Int)), some (.ref q), some (.str (SX.S st)), some (.str (SX.S l)), some (.ref E), some (.ref F), some (.int fv), none, z10] ∧ ((fv = 1 ∧ l.length = 40001) ∨ (fv ≠ 1 ∧ ∃ P2, l = rend P2 ∧ TxOk P2 40000 ∧ exps 1 P2 = exps 1 P ∧ flts 1 P2 = flts 1 P))) ?_ ?_
    · k_updF
      refine WP.br (fun c => ?_) (fun c => ?_)
      · k_updF
        refine WP.lenS' (by rw [sizeLine_eq]; omega) ?_
        k_updF
        refine WP.mulS (by omega) (by omega) ?_
        refine WP.catS (a := rend P) ?_ (by rw [List.length_replicate, sizeLine_eq]; omega)
        k_updF
        refine ⟨rfl, _, rfl, ?_⟩
        rcases (show fv = 1 ∨ fv = 0 by omega) with c1 | c1
        · refine .inl ⟨c1, ?_⟩
          rw [List.length_append, List.length_replicate]; omega
        · refine .inr ⟨by omega, P ++ spc (List.replicate (40000 + fv - ((rend P).length : Int)).toNat 32), by rw [rend_app, rend_spc], (show TxOk P (rend P).length from ⟨t.ok, t.adj, Nat.le_refl _, t.st⟩).spaces (fun c hc => .inl (List.eq_of_mem_replicate hc)) ?_, exps_snocS _ _ _, flts_snocS _ _ _⟩
          rw [List.length_replicate]; omega
      · k_updF
        exact ⟨rfl, _, rfl, .inr ⟨by omega, P, rfl, ⟨t.ok, t.adj, by omega, t.st⟩, rfl, rfl⟩⟩
    rintro σ' H' ⟨rfl, l, rfl, big | ⟨c1, P2, rfl, t2, ex2, fl2⟩⟩
    · obtain ⟨rfl, hl2⟩ := big
      k_updF
      refine WP.brT (decide_eq_true rfl) ?_
      k_updF
      refine ⟨WP.sz (show 3 ≤ 1000000 by decide), fun p1 h1 => ?_⟩
      generalize hG : upd _ p1 _ = G1
      have e1 : Same H' G1 := hG ▸ WP.same_new h1
      have g1 : SqT K G1 p1 [.int 0, .int 0, .str (SX.S [115, 105, 122, 101])] := by rw [← hG]; exact SqT.of upd_same
      clear hG
      k_updF
      refine ⟨WP.sz (show 1 ≤ 1000000 by decide), fun p2 h2 => ?_⟩
      generalize hG : upd G1 p2 _ = G2
      have e2 : Same G1 G2 := hG ▸ WP.same_new h2
      have g2 : G2 p2 = some (.lst [.ref p1]) := by rw [← hG]; exact upd_same
      clear hG
      have g1 := WP.sqt e2 g1
      have hT := tab_same hT (e1.trans e2)
      k_updF
      refine WP.lenL (SqL.of g2) ?_
      k_updF
      refine WP.brT (decide_eq_true (by show (0 : Int) < ((1 : Nat) : Int); decide)) ?_
      k_updF
      refine WP.ixL (SqL.of g2) WP.at0 ?_
      k_updF
      refine WP.ixT g1 WP.at1 ?_
      k_updF
      refine WP.ixL (SqL.of g2) WP.at0 ?_
      k_updF
      refine WP.ixT g1 WP.at2 ?_
      k_updF
      refine ⟨l, 0, [115, 105, 122, 101], rfl, by omega, by decide, hT, fun Q' E' hB => sp_tok_big (by omega) (by omega) hT Q' E' hB, fun H' => ?_⟩
      k_updF
      exact k _
    · k_updF
      refine WP.brF (decide_eq_false c1) ?_
      k_updF
      refine WP.lenL (SqL.of gF) ?_
      rw [lF]
      k_updF
      refine WP.br (fun c => ?_) (fun c => ?_)
      · obtain ⟨y0, hy0⟩ : ∃ y0, ys[0]? = some y0 := ⟨_, List.getElem?_eq_getElem (by omega)⟩
        obtain ⟨fa, kk, r, rfl, hm, hfa, hmin⟩ := mF y0 hy0
        rw [← fl2] at hm hmin
        obtain ⟨rc, erc, hrc⟩ : ∃ rc : List Nat, RSN kk = .str (SX.S rc) ∧ ∀ c ∈ rc, c < 128 := by
          unfold RSN
          by_cases c3 : kk = 0
          · rw [if_pos c3]; exact ⟨_, rfl, by decide⟩
          · rw [if_neg c3]; exact ⟨_, rfl, by decide⟩
        have hb := fun (Q' : VK) (E' : XK) hB => sp_tok_bad (mg := mg) t2 hT hm hmin Q' E' hB
        rw [erc] at hfa hb
        have hat : atI ys 0 = some (.ref fa) := atI_nat (j := 0) hy0
        k_updF
        refine WP.ixL (SqL.of gF) hat ?_
        k_updF
        refine WP.ixT (SqT.of hfa) WP.at1 ?_
        k_updF
        refine WP.ixL (SqL.of gF) hat ?_
        k_updF
        refine WP.ixT (SqT.of hfa) WP.at2 ?_
        k_updF
        have := t2.len
        refine ⟨rend P2, r, rc, rfl, by omega, hrc, hT, hb, fun H' => ?_⟩
        k_updF
        exact k _
      · have f0 : flts 1 P2 = [] := by rw [fl2]; exact List.length_eq_zero_iff.mp (by omega)
        k_updF
        refine sp_tok_good t2 hT f0 _ _ (fun L as H8 sm hL hR => ?_)
        rw [ex2] at hR
        k_updF
        refine WP.isY (.base (.lst hL)) ?_
        refine ⟨_, rfl, iteT ?_⟩
        k_updF
        refine WP.tupL (SqL.of hL) (fun T1 hT1 => ?_)
        generalize hG : upd _ T1 _ = G1
        have e1 : Same H8 G1 := hG ▸ WP.same_new hT1
        have g1 : SqT K G1 T1 (as.map V.ref) := by rw [← hG]; exact SqT.of upd_same
        clear hG
        have gE1 := e1 _ _ (sm.k _ _ gE (fun ps h => nomatch h))
        have eE1 := eE.map fun a xs z => e1 _ _ (sm.k _ _ z (fun ps h => nomatch h))
        k_updF
        refine WP.tupL (SqL.of gE1) (fun T2 hT2 => ?_)
        generalize hG : upd _ T2 _ = G2
        have e2 : Same G1 G2 := hG ▸ WP.same_new hT2
        have g2 : SqT K G2 T2 es := by rw [← hG]; exact SqT.of upd_same
        clear hG
        have eE2 := eE1.map fun a xs z => e2 _ _ z
        k_updF
        refine ⟨_, _, rfl, .tup (WP.sqt e2 g1) g2 (by rw [List.length_map, hR.1, eE1.len]) (by rw [eE1.len]; omega) (fun i x y hx hy => ?_), k _⟩
        obtain ⟨b, tk, rfl, htk, hb⟩ := eE2.at i y hy
        rw [List.getElem?_map] at hx
        cases ea : as[i]? with
        | none => rw [ea] at hx; cases hx
        | some aa =>
          rw [ea] at hx
          cases hx
          have h1 := WP.sqt (e1.trans e2) (hR.2 i aa tk ea htk)
          have hc := ex_chr 1 P t.ok tk (List.mem_of_getElem? htk)
          refine .tup h1 (SqT.of hb) rfl (show 3 ≤ 1000 by decide) (pw_cons (.int _) (pw_cons (.str _ (WP.sok_S fun c h => ?_)) (pw_cons (.str _ (WP.sok_S fun c h => ?_)) pw_nil)))
          · have : c < 128 := by
              revert h
              split
              · exact (show ∀ c ∈ [115, 116, 114, 105, 110, 103], c < 128 by decide) c
              · exact (show ∀ c ∈ [119, 111, 114, 100], c < 128 by decide) c
            omega
          · have := hc c h; omega
end
theorem all_mk {l : PySem.W.OpenLaw} {w : World} {K : PySem.W.Frag} {h : Heap} {mg : Str → Option Value} {fa : Addr} (X : K.In h) (G : h.Ns mainGlobals mg) (hfa : mg "law" = some (.ref fa))
    {C_BadData : Addr} (on_BadData : PySem.W.nsIn K mainGlobals "BadData" = some (some (.ref C_BadData))) (xo_BadData : L2.OexC K C_BadData) (xx_BadData : L2.XfC K C_BadData)
    (xc_BadData : L2.ExcC K C_BadData)
    (ot_BadData_0 : PySem.W.findIn K (.ref C_BadData) "reason" = some none)
    (ot_BadData_1 : PySem.W.findIn K (.ref C_BadData) "name" = some none)
    {C_BadPart : Addr} (on_BadPart : PySem.W.nsIn K mainGlobals "BadPart" = some (some (.ref C_BadPart))) (xo_BadPart : L2.OexC K C_BadPart) (xx_BadPart : L2.XfC K C_BadPart)
    (xc_BadPart : L2.ExcC K C_BadPart)
    (ot_BadPart_0 : PySem.W.findIn K (.ref C_BadPart) "reason" = some none)
    (ot_BadPart_1 : PySem.W.findIn K (.ref C_BadPart) "name" = some none)
    {C_BadProgram : Addr} (on_BadProgram : PySem.W.nsIn K mainGlobals "BadProgram" = some (some (.ref C_BadProgram))) (xo_BadProgram : L2.OexC K C_BadProgram) (xx_BadProgram : L2.XfC K C_BadProgram)
    (xc_BadProgram : L2.ExcC K C_BadProgram)
    (ot_BadProgram_0 : PySem.W.findIn K (.ref C_BadProgram) "line" = some none)
    (ot_BadProgram_1 : PySem.W.findIn K (.ref C_BadProgram) "reason" = some none)
    {fx0 : Addr} {odx0 anx0 : Option Addr} {slx0 : Array (Option Value)} {ocx0 kVx0 dcx0 pmx0 cdx0 ctx0 : Value}
    (ax0 : PySem.W.nsIn K mainGlobals "_law_draws" = some (some (.ref fx0))) (lx0 : K.lookup fx0 = some ⟨ocx0, odx0, .func (PySem.W.fnOf "_law_draws" "_law_draws" (defArgs s__law_draws) (defBody s__law_draws) (defScope s__law_draws) .none kVx0 dcx0 pmx0 anx0 cdx0 ctx0), slx0⟩) (cx0 : PySem.W.codeIn K cdx0 "_law_draws" = true) (kx0 : PySem.W.keepIn K (.ref fx0) = true)
    {fx1 : Addr} {odx1 anx1 : Option Addr} {slx1 : Array (Option Value)} {ocx1 kVx1 dcx1 pmx1 cdx1 ctx1 : Value}
    (ax1 : PySem.W.nsIn K mainGlobals "_law_draw" = some (some (.ref fx1))) (lx1 : K.lookup fx1 = some ⟨ocx1, odx1, .func (PySem.W.fnOf "_law_draw" "_law_draw" (defArgs s__law_draw) (defBody s__law_draw) (defScope s__law_draw) .none kVx1 dcx1 pmx1 anx1 cdx1 ctx1), slx1⟩) (cx1 : PySem.W.codeIn K cdx1 "_law_draw" = true) (kx1 : PySem.W.keepIn K (.ref fx1) = true)
    {fx2 : Addr} {odx2 anx2 : Option Addr} {slx2 : Array (Option Value)} {ocx2 kVx2 dcx2 pmx2 cdx2 ctx2 : Value}
    (ax2 : PySem.W.nsIn K mainGlobals "_law_characters" = some (some (.ref fx2))) (lx2 : K.lookup fx2 = some ⟨ocx2, odx2, .func (PySem.W.fnOf "_law_characters" "_law_characters" (defArgs s__law_characters) (defBody s__law_characters) (defScope s__law_characters) .none kVx2 dcx2 pmx2 anx2 cdx2 ctx2), slx2⟩) (cx2 : PySem.W.codeIn K cdx2 "_law_characters" = true) (kx2 : PySem.W.keepIn K (.ref fx2) = true)
    {fx3 : Addr} {odx3 anx3 : Option Addr} {slx3 : Array (Option Value)} {ocx3 kVx3 dcx3 pmx3 cdx3 ctx3 : Value}
    (ax3 : PySem.W.nsIn K mainGlobals "_law_space" = some (some (.ref fx3))) (lx3 : K.lookup fx3 = some ⟨ocx3, odx3, .func (PySem.W.fnOf "_law_space" "_law_space" (defArgs s__law_space) (defBody s__law_space) (defScope s__law_space) .none kVx3 dcx3 pmx3 anx3 cdx3 ctx3), slx3⟩) (cx3 : PySem.W.codeIn K cdx3 "_law_space" = true) (kx3 : PySem.W.keepIn K (.ref fx3) = true)
    {fx4 : Addr} {odx4 anx4 : Option Addr} {slx4 : Array (Option Value)} {ocx4 kVx4 dcx4 pmx4 cdx4 ctx4 : Value}
    (ax4 : PySem.W.nsIn K mainGlobals "_law_lines" = some (some (.ref fx4))) (lx4 : K.lookup fx4 = some ⟨ocx4, odx4, .func (PySem.W.fnOf "_law_lines" "_law_lines" (defArgs s__law_lines) (defBody s__law_lines) (defScope s__law_lines) .none kVx4 dcx4 pmx4 anx4 cdx4 ctx4), slx4⟩) (cx4 : PySem.W.codeIn K cdx4 "_law_lines" = true) (kx4 : PySem.W.keepIn K (.ref fx4) = true)
    {fx5 : Addr} {odx5 anx5 : Option Addr} {slx5 : Array (Option Value)} {ocx5 kVx5 dcx5 pmx5 cdx5 ctx5 : Value}
    (ax5 : PySem.W.nsIn K mainGlobals "_law_word" = some (some (.ref fx5))) (lx5 : K.lookup fx5 = some ⟨ocx5, odx5, .func (PySem.W.fnOf "_law_word" "_law_word" (defArgs s__law_word) (defBody s__law_word) (defScope s__law_word) .none kVx5 dcx5 pmx5 anx5 cdx5 ctx5), slx5⟩) (cx5 : PySem.W.codeIn K cdx5 "_law_word" = true) (kx5 : PySem.W.keepIn K (.ref fx5) = true)
    {fx6 : Addr} {odx6 anx6 : Option Addr} {slx6 : Array (Option Value)} {ocx6 kVx6 dcx6 pmx6 cdx6 ctx6 : Value}
    (ax6 : PySem.W.nsIn K mainGlobals "_law_faulty" = some (some (.ref fx6))) (lx6 : K.lookup fx6 = some ⟨ocx6, odx6, .func (PySem.W.fnOf "_law_faulty" "_law_faulty" (defArgs s__law_faulty) (defBody s__law_faulty) (defScope s__law_faulty) .none kVx6 dcx6 pmx6 anx6 cdx6 ctx6), slx6⟩) (cx6 : PySem.W.codeIn K cdx6 "_law_faulty" = true) (kx6 : PySem.W.keepIn K (.ref fx6) = true)
    {fx7 : Addr} {odx7 anx7 : Option Addr} {slx7 : Array (Option Value)} {ocx7 kVx7 dcx7 pmx7 cdx7 ctx7 : Value}
    (ax7 : PySem.W.nsIn K mainGlobals "_law_quoted" = some (some (.ref fx7))) (lx7 : K.lookup fx7 = some ⟨ocx7, odx7, .func (PySem.W.fnOf "_law_quoted" "_law_quoted" (defArgs s__law_quoted) (defBody s__law_quoted) (defScope s__law_quoted) .none kVx7 dcx7 pmx7 anx7 cdx7 ctx7), slx7⟩) (cx7 : PySem.W.codeIn K cdx7 "_law_quoted" = true) (kx7 : PySem.W.keepIn K (.ref fx7) = true)
    {fx8 : Addr} {odx8 anx8 : Option Addr} {slx8 : Array (Option Value)} {ocx8 kVx8 dcx8 pmx8 cdx8 ctx8 : Value}
    (ax8 : PySem.W.nsIn K mainGlobals "_law_build" = some (some (.ref fx8))) (lx8 : K.lookup fx8 = some ⟨ocx8, odx8, .func (PySem.W.fnOf "_law_build" "_law_build" (defArgs s__law_build) (defBody s__law_build) (defScope s__law_build) .none kVx8 dcx8 pmx8 anx8 cdx8 ctx8), slx8⟩) (cx8 : PySem.W.codeIn K cdx8 "_law_build" = true) (kx8 : PySem.W.keepIn K (.ref fx8) = true)
    {fx9 : Addr} {odx9 anx9 : Option Addr} {slx9 : Array (Option Value)} {ocx9 kVx9 dcx9 pmx9 cdx9 ctx9 : Value}
    (ax9 : PySem.W.findIn K (.ref C_BadProgram) "__init__" = some (some (.ref fx9))) (ix9 : PySem.W.isFn K (.ref fx9) = true) (lx9 : K.lookup fx9 = some ⟨ocx9, odx9, .func (PySem.W.fnOf "__init__" "BadProgram.__init__" (defArgs s_BadProgram___init__) (defBody s_BadProgram___init__) (defScope s_BadProgram___init__) .none kVx9 dcx9 pmx9 anx9 cdx9 ctx9), slx9⟩) (cx9 : PySem.W.codeIn K cdx9 "BadProgram.__init__" = true) (kx9 : PySem.W.keepIn K (.ref fx9) = true)
    (tfx9 : PySem.W.typeIn K (.ref fx9) = some (.type "function"))
    {fx10 Kcx10 Ktx10 : Addr} {odx10 anx10 : Option Addr} {slx10 : Array (Option Value)} {ocx10 kVx10 dcx10 pmx10 ctx10 : Value}
    (ax10 : PySem.W.nsIn K mainGlobals "is_printable" = some (some (.ref fx10))) (tbx10 : PySem.W.tabIn K "is_printable" = some (Kcx10, Ktx10)) (lx10 : K.lookup fx10 = some ⟨ocx10, odx10, .func (PySem.W.fnOf "is_printable" "is_printable" (defArgs s_is_printable) (defBody s_is_printable) (defScope s_is_printable) .none kVx10 dcx10 pmx10 anx10 (.ref Kcx10) ctx10), slx10⟩) (cx10 : PySem.W.codeIn K (.ref Kcx10) "is_printable" = true) (kx10 : PySem.W.keepIn K (.ref fx10) = true)
    (hdx10 : PySem.W.CodeHd h Kcx10 Ktx10 ∧ h.get? Ktx10 = some { cls := .none, data := .fields #[] }) (nkx10 : K.lookup Ktx10 = none)
    {fx11 : Addr} {odx11 anx11 : Option Addr} {slx11 : Array (Option Value)} {ocx11 kVx11 dcx11 pmx11 cdx11 ctx11 : Value}
    (ax11 : PySem.W.nsIn K mainGlobals "_end_of_string" = some (some (.ref fx11))) (lx11 : K.lookup fx11 = some ⟨ocx11, odx11, .func (PySem.W.fnOf "_end_of_string" "_end_of_string" (defArgs s__end_of_string) (defBody s__end_of_string) (defScope s__end_of_string) .none kVx11 dcx11 pmx11 anx11 cdx11 ctx11), slx11⟩) (cx11 : PySem.W.codeIn K cdx11 "_end_of_string" = true) (kx11 : PySem.W.keepIn K (.ref fx11) = true)
    {fx12 : Addr} {odx12 anx12 : Option Addr} {slx12 : Array (Option Value)} {ocx12 kVx12 dcx12 pmx12 cdx12 ctx12 : Value}
    (ax12 : PySem.W.nsIn K mainGlobals "_end_of_word" = some (some (.ref fx12))) (lx12 : K.lookup fx12 = some ⟨ocx12, odx12, .func (PySem.W.fnOf "_end_of_word" "_end_of_word" (defArgs s__end_of_word) (defBody s__end_of_word) (defScope s__end_of_word) .none kVx12 dcx12 pmx12 anx12 cdx12 ctx12), slx12⟩) (cx12 : PySem.W.codeIn K cdx12 "_end_of_word" = true) (kx12 : PySem.W.keepIn K (.ref fx12) = true)
    {fx13 : Addr} {odx13 anx13 : Option Addr} {slx13 : Array (Option Value)} {ocx13 kVx13 dcx13 pmx13 cdx13 ctx13 : Value}
    (ax13 : PySem.W.nsIn K mainGlobals "_tokens_of_line" = some (some (.ref fx13))) (lx13 : K.lookup fx13 = some ⟨ocx13, odx13, .func (PySem.W.fnOf "_tokens_of_line" "_tokens_of_line" (defArgs s__tokens_of_line) (defBody s__tokens_of_line) (defScope s__tokens_of_line) .none kVx13 dcx13 pmx13 anx13 cdx13 ctx13), slx13⟩) (cx13 : PySem.W.codeIn K cdx13 "_tokens_of_line" = true) (kx13 : PySem.W.keepIn K (.ref fx13) = true)
    {fx14 : Addr} {odx14 anx14 : Option Addr} {slx14 : Array (Option Value)} {ocx14 kVx14 dcx14 pmx14 cdx14 ctx14 : Value}
    (ax14 : PySem.W.nsIn K mainGlobals "tokens" = some (some (.ref fx14))) (lx14 : K.lookup fx14 = some ⟨ocx14, odx14, .func (PySem.W.fnOf "tokens" "tokens" (defArgs s_tokens) (defBody s_tokens) (defScope s_tokens) .none kVx14 dcx14 pmx14 anx14 cdx14 ctx14), slx14⟩) (cx14 : PySem.W.codeIn K cdx14 "tokens" = true) (kx14 : PySem.W.keepIn K (.ref fx14) = true)
    {fx15 : Addr} {odx15 anx15 : Option Addr} {slx15 : Array (Option Value)} {ocx15 kVx15 dcx15 pmx15 cdx15 ctx15 : Value}
    (ax15 : PySem.W.nsIn K mainGlobals "_law_same" = some (some (.ref fx15))) (lx15 : K.lookup fx15 = some ⟨ocx15, odx15, .func (PySem.W.fnOf "_law_same" "_law_same" (defArgs s__law_same) (defBody s__law_same) (defScope s__law_same) .none kVx15 dcx15 pmx15 anx15 cdx15 ctx15), slx15⟩) (cx15 : PySem.W.codeIn K cdx15 "_law_same" = true) (kx15 : PySem.W.keepIn K (.ref fx15) = true)
    {fx16 : Addr} {odx16 anx16 : Option Addr} {slx16 : Array (Option Value)} {ocx16 kVx16 dcx16 pmx16 cdx16 ctx16 : Value}
    (ax16 : PySem.W.nsIn K mainGlobals "_law_raises" = some (some (.ref fx16))) (lx16 : K.lookup fx16 = some ⟨ocx16, odx16, .func (PySem.W.fnOf "_law_raises" "_law_raises" (defArgs s__law_raises) (defBody s__law_raises) (defScope s__law_raises) .none kVx16 dcx16 pmx16 anx16 cdx16 ctx16), slx16⟩) (cx16 : PySem.W.codeIn K cdx16 "_law_raises" = true) (kx16 : PySem.W.keepIn K (.ref fx16) = true)
    {fx17 : Addr} {odx17 anx17 : Option Addr} {slx17 : Array (Option Value)} {ocx17 kVx17 dcx17 pmx17 cdx17 ctx17 : Value}
    (ax17 : PySem.W.nsIn K mainGlobals "quoted" = some (some (.ref fx17))) (lx17 : K.lookup fx17 = some ⟨ocx17, odx17, .func (PySem.W.fnOf "quoted" "quoted" (defArgs s_quoted) (defBody s_quoted) (defScope s_quoted) .none kVx17 dcx17 pmx17 anx17 cdx17 ctx17), slx17⟩) (cx17 : PySem.W.codeIn K cdx17 "quoted" = true) (kx17 : PySem.W.keepIn K (.ref fx17) = true)
    {fx18 : Addr} {odx18 anx18 : Option Addr} {slx18 : Array (Option Value)} {ocx18 kVx18 dcx18 pmx18 cdx18 ctx18 : Value}
    (ax18 : PySem.W.nsIn K mainGlobals "law" = some (some (.ref fx18))) (lx18 : K.lookup fx18 = some ⟨ocx18, odx18, .func (PySem.W.fnOf "law" "law" (defArgs s_law) (defBody s_law) (defScope s_law) .none kVx18 dcx18 pmx18 anx18 cdx18 ctx18), slx18⟩) (cx18 : PySem.W.codeIn K cdx18 "law" = true) (kx18 : PySem.W.keepIn K (.ref fx18) = true)
    (z_ValueError : PySem.W.nsIn K mainGlobals "ValueError" = some none)
    (z_all : PySem.W.nsIn K mainGlobals "all" = some none)
    (z_bool : PySem.W.nsIn K mainGlobals "bool" = some none)
    (z_enumerate : PySem.W.nsIn K mainGlobals "enumerate" = some none)
    (z_int : PySem.W.nsIn K mainGlobals "int" = some none)
    (z_isinstance : PySem.W.nsIn K mainGlobals "isinstance" = some none)
    (z_len : PySem.W.nsIn K mainGlobals "len" = some none)
    (z_list : PySem.W.nsIn K mainGlobals "list" = some none)
    (z_ord : PySem.W.nsIn K mainGlobals "ord" = some none)
    (z_range : PySem.W.nsIn K mainGlobals "range" = some none)
    (z_sorted : PySem.W.nsIn K mainGlobals "sorted" = some none)
    (z_str : PySem.W.nsIn K mainGlobals "str" = some none)
    (z_tuple : PySem.W.nsIn K mainGlobals "tuple" = some none)
    {t_DOUBLED_QUOTE : Tok} (g_DOUBLED_QUOTE : PySem.W.nsIn K mainGlobals "DOUBLED_QUOTE" = some (some (.str "''" t_DOUBLED_QUOTE)))
    {t_FIRST_PRINTABLE : Tok} (g_FIRST_PRINTABLE : PySem.W.nsIn K mainGlobals "FIRST_PRINTABLE" = some (some (.int 32 t_FIRST_PRINTABLE)))
    {t_LAST_PRINTABLE : Tok} (g_LAST_PRINTABLE : PySem.W.nsIn K mainGlobals "LAST_PRINTABLE" = some (some (.int 126 t_LAST_PRINTABLE)))
    {t_MOST_PROGRAM : Tok} (g_MOST_PROGRAM : PySem.W.nsIn K mainGlobals "MOST_PROGRAM" = some (some (.int 40000 t_MOST_PROGRAM)))
    {t_NOT_PRINTABLE : Tok} (g_NOT_PRINTABLE : PySem.W.nsIn K mainGlobals "NOT_PRINTABLE" = some (some (.int 37 t_NOT_PRINTABLE)))
    {t_QUOTE : Tok} (g_QUOTE : PySem.W.nsIn K mainGlobals "QUOTE" = some (some (.str "'" t_QUOTE)))
    (tn_DOUBLED_QUOTE_QUOTE : t_DOUBLED_QUOTE ≠ 0 ∧ t_QUOTE ≠ 0 ∧ t_DOUBLED_QUOTE ≠ t_QUOTE)
    (tn_QUOTE_DOUBLED_QUOTE : t_QUOTE ≠ 0 ∧ t_DOUBLED_QUOTE ≠ 0 ∧ t_QUOTE ≠ t_DOUBLED_QUOTE)
    {aC_BadDecimal : Addr} (n_BadDecimal : PySem.W.nsIn K mainGlobals "BadDecimal" = some (some (.ref aC_BadDecimal))) (x_BadDecimal : PySem.W.excIn K aC_BadDecimal [.type "ValueError", .type "Exception", .type "BaseException", .type "object"] "ValueError.__new__" = true) (kc_BadDecimal : PySem.W.keepIn K (.ref aC_BadDecimal) = true) (tc_BadDecimal : PySem.W.typeIn K (.ref aC_BadDecimal) = some (.type "type"))
    (hg_BadDecimal : PySem.W.findIn K (.ref aC_BadDecimal) "__getattribute__" = some (some (.builtin "BaseException.__getattribute__"))) (hk_BadDecimal : PySem.W.findIn K (.ref aC_BadDecimal) "__getattr__" = some none) (hs_BadDecimal : PySem.W.subIn K (.ref aC_BadDecimal) (.type "BaseException") = some true) (hd_BadDecimal : PySem.W.hasDictIn K aC_BadDecimal = true) (ha_BadDecimal : PySem.W.findIn K (.ref aC_BadDecimal) "__class__" = some (some (.builtin "object.__class__"))) (hm_BadDecimal : PySem.W.mroIn K aC_BadDecimal (.type "object") = some true)
    {aC_CardError : Addr} (n_CardError : PySem.W.nsIn K mainGlobals "CardError" = some (some (.ref aC_CardError))) (x_CardError : PySem.W.excIn K aC_CardError [.type "ValueError", .type "Exception", .type "BaseException", .type "object"] "ValueError.__new__" = true) (kc_CardError : PySem.W.keepIn K (.ref aC_CardError) = true) (tc_CardError : PySem.W.typeIn K (.ref aC_CardError) = some (.type "type"))
    (hg_CardError : PySem.W.findIn K (.ref aC_CardError) "__getattribute__" = some (some (.builtin "BaseException.__getattribute__"))) (hk_CardError : PySem.W.findIn K (.ref aC_CardError) "__getattr__" = some none) (hs_CardError : PySem.W.subIn K (.ref aC_CardError) (.type "BaseException") = some true) (hd_CardError : PySem.W.hasDictIn K aC_CardError = true) (ha_CardError : PySem.W.findIn K (.ref aC_CardError) "__class__" = some (some (.builtin "object.__class__"))) (hm_CardError : PySem.W.mroIn K aC_CardError (.type "object") = some true)
    (hn_ : PySem.W.specialIn K (.builtin "object.__class__") "__get__" = some (some (.builtin "getset_descriptor.__get__"))) (ht_ : PySem.W.takesIn K (.builtin "object.__class__") = some true)
    (t_BadProgram_ValueError : PySem.W.kitOne K (.ref C_BadProgram) (.type "ValueError") = some true)
    (s_BadProgram_BadProgram : PySem.W.subIn K (.ref C_BadProgram) (.ref C_BadProgram) = some true)
    (i_BadProgram_BadData : PySem.W.kitOne K (.ref C_BadProgram) (.ref C_BadData) = some false)
    (i_BadProgram_BadDecimal : PySem.W.kitOne K (.ref C_BadProgram) (.ref aC_BadDecimal) = some false)
    (i_BadProgram_BadPart : PySem.W.kitOne K (.ref C_BadProgram) (.ref C_BadPart) = some false)
    (i_BadProgram_CardError : PySem.W.kitOne K (.ref C_BadProgram) (.ref aC_CardError) = some true)
    : LamX.LawAtS l w K CX0 7 63 "script" mg fa h := by
  have e := hfa.symm.trans (PySem.W.mg_of X G ax18)
  cases e
  have B : Blt w K mg := ⟨PySem.W.mg_none_of X G z_ValueError, PySem.W.mg_none_of X G z_all, PySem.W.mg_none_of X G z_bool, PySem.W.mg_none_of X G z_enumerate, PySem.W.mg_none_of X G z_int, PySem.W.mg_none_of X G z_isinstance, PySem.W.mg_none_of X G z_len, PySem.W.mg_none_of X G z_list, PySem.W.mg_none_of X G z_ord, PySem.W.mg_none_of X G z_range, PySem.W.mg_none_of X G z_sorted, PySem.W.mg_none_of X G z_str, PySem.W.mg_none_of X G z_tuple, ⟨_, PySem.W.mg_of X G g_DOUBLED_QUOTE, _, congrArg (Value.str · _) (by decide +kernel)⟩, ⟨_, PySem.W.mg_of X G g_FIRST_PRINTABLE, _, rfl⟩, ⟨_, PySem.W.mg_of X G g_LAST_PRINTABLE, _, rfl⟩, ⟨_, PySem.W.mg_of X G g_MOST_PROGRAM, _, rfl⟩, ⟨_, PySem.W.mg_of X G g_NOT_PRINTABLE, _, rfl⟩, ⟨_, PySem.W.mg_of X G g_QUOTE, _, congrArg (Value.str · _) (by decide +kernel)⟩, ⟨⟨_, _, PySem.W.mg_of X G g_DOUBLED_QUOTE, PySem.W.mg_of X G g_QUOTE, tn_DOUBLED_QUOTE_QUOTE, by decide⟩⟩, ⟨⟨_, _, PySem.W.mg_of X G g_QUOTE, PySem.W.mg_of X G g_DOUBLED_QUOTE, tn_QUOTE_DOUBLED_QUOTE, by decide⟩⟩, WP.ExiOk.mk' (PySem.W.mg_of X G on_BadData) xo_BadData xx_BadData (List.forall_mem_cons.mpr ⟨ot_BadData_0, (List.forall_mem_cons.mpr ⟨ot_BadData_1, (fun _ h => nomatch h)⟩)⟩) xc_BadData, WP.ExiOk.mk' (PySem.W.mg_of X G on_BadPart) xo_BadPart xx_BadPart (List.forall_mem_cons.mpr ⟨ot_BadPart_0, (List.forall_mem_cons.mpr ⟨ot_BadPart_1, (fun _ h => nomatch h)⟩)⟩) xc_BadPart, WP.ExiOk.mk' (PySem.W.mg_of X G on_BadProgram) xo_BadProgram xx_BadProgram (List.forall_mem_cons.mpr ⟨ot_BadProgram_0, (List.forall_mem_cons.mpr ⟨ot_BadProgram_1, (fun _ h => nomatch h)⟩)⟩) xc_BadProgram, WP.ExcOk.mk' (PySem.W.mg_of X G n_BadDecimal) ⟨x_BadDecimal, kc_BadDecimal, tc_BadDecimal, ⟨hg_BadDecimal, hk_BadDecimal, hs_BadDecimal, hd_BadDecimal, ha_BadDecimal, hn_, ht_, hm_BadDecimal⟩⟩, WP.ExcOk.mk' (PySem.W.mg_of X G n_CardError) ⟨x_CardError, kc_CardError, tc_CardError, ⟨hg_CardError, hk_CardError, hs_CardError, hd_CardError, ha_CardError, hn_, ht_, hm_CardError⟩⟩, by rw [WP.ca_of (PySem.W.mg_of X G on_BadProgram)]; exact t_BadProgram_ValueError, by rw [WP.ca_of (PySem.W.mg_of X G on_BadProgram)]; exact s_BadProgram_BadProgram, by rw [WP.ca_of (PySem.W.mg_of X G on_BadProgram), WP.ca_of (PySem.W.mg_of X G on_BadData)]; exact i_BadProgram_BadData, by rw [WP.ca_of (PySem.W.mg_of X G on_BadProgram), WP.ca_of (PySem.W.mg_of X G n_BadDecimal)]; exact i_BadProgram_BadDecimal, by rw [WP.ca_of (PySem.W.mg_of X G on_BadProgram), WP.ca_of (PySem.W.mg_of X G on_BadPart)]; exact i_BadProgram_BadPart, by rw [WP.ca_of (PySem.W.mg_of X G on_BadProgram), WP.ca_of (PySem.W.mg_of X G n_CardError)]; exact i_BadProgram_CardError⟩
  have Fx0 := fun_mk (st := s__law_draws) lx0 cx0 kx0
  have bx0 := Fx0.binds (ps := ["script"]) fun _ _ _ _ _ _ us hl => match us, hl with | [_], _ => rfl
  have Cx0 : ∀ base : Heap, K.In base → base.Ns mainGlobals mg → (∀ p ∈ ([(Kcx10, Ktx10)] : List (Addr × Addr)), LamX.TabB base mg p.1 p.2) → WP.Callee l.prog w K mg base CX0 1 "_law_draws" ["script"] (sp__law_draws K mg) := fun base p1 p2 p3 => WP.Callee.mk' (ok__law_draws Fx0 B ) (PySem.W.mg_of X G ax0) kx0 bx0
  have Fx1 := fun_mk (st := s__law_draw) lx1 cx1 kx1
  have bx1 := Fx1.binds (ps := ["draws", "limit"]) fun _ _ _ _ _ _ us hl => match us, hl with | [_, _], _ => rfl
  have Cx1 : ∀ base : Heap, K.In base → base.Ns mainGlobals mg → (∀ p ∈ ([(Kcx10, Ktx10)] : List (Addr × Addr)), LamX.TabB base mg p.1 p.2) → WP.Callee l.prog w K mg base CX0 1 "_law_draw" ["draws", "limit"] (sp__law_draw K mg) := fun base p1 p2 p3 => WP.Callee.mk' (ok__law_draw Fx1 B ) (PySem.W.mg_of X G ax1) kx1 bx1
  have Fx2 := fun_mk (st := s__law_characters) lx2 cx2 kx2
  have bx2 := Fx2.binds (ps := ["draws", "most"]) fun _ _ _ _ _ _ us hl => match us, hl with | [_, _], _ => rfl
  have Cx2 : ∀ base : Heap, K.In base → base.Ns mainGlobals mg → (∀ p ∈ ([(Kcx10, Ktx10)] : List (Addr × Addr)), LamX.TabB base mg p.1 p.2) → WP.Callee l.prog w K mg base CX0 2 "_law_characters" ["draws", "most"] (sp__law_characters K mg) := fun base p1 p2 p3 => WP.Callee.mk' (ok__law_characters Fx2 B (Cx1 base p1 p2 p3)) (PySem.W.mg_of X G ax2) kx2 bx2
  have Fx3 := fun_mk (st := s__law_space) lx3 cx3 kx3
  have bx3 := Fx3.binds (ps := ["draws", "least", "most"]) fun _ _ _ _ _ _ us hl => match us, hl with | [_, _, _], _ => rfl
  have Cx3 : ∀ base : Heap, K.In base → base.Ns mainGlobals mg → (∀ p ∈ ([(Kcx10, Ktx10)] : List (Addr × Addr)), LamX.TabB base mg p.1 p.2) → WP.Callee l.prog w K mg base CX0 2 "_law_space" ["draws", "least", "most"] (sp__law_space K mg) := fun base p1 p2 p3 => WP.Callee.mk' (ok__law_space Fx3 B (Cx1 base p1 p2 p3)) (PySem.W.mg_of X G ax3) kx3 bx3
  have Fx4 := fun_mk (st := s__law_lines) lx4 cx4 kx4
  have bx4 := Fx4.binds (ps := ["text"]) fun _ _ _ _ _ _ us hl => match us, hl with | [_], _ => rfl
  have Cx4 : ∀ base : Heap, K.In base → base.Ns mainGlobals mg → (∀ p ∈ ([(Kcx10, Ktx10)] : List (Addr × Addr)), LamX.TabB base mg p.1 p.2) → WP.Callee l.prog w K mg base CX0 1 "_law_lines" ["text"] (sp__law_lines K mg) := fun base p1 p2 p3 => WP.Callee.mk' (ok__law_lines Fx4 B ) (PySem.W.mg_of X G ax4) kx4 bx4
  have Fx5 := fun_mk (st := s__law_word) lx5 cx5 kx5
  have bx5 := Fx5.binds (ps := ["draws"]) fun _ _ _ _ _ _ us hl => match us, hl with | [_], _ => rfl
  have Cx5 : ∀ base : Heap, K.In base → base.Ns mainGlobals mg → (∀ p ∈ ([(Kcx10, Ktx10)] : List (Addr × Addr)), LamX.TabB base mg p.1 p.2) → WP.Callee l.prog w K mg base CX0 2 "_law_word" ["draws"] (sp__law_word K mg) := fun base p1 p2 p3 => WP.Callee.mk' (ok__law_word Fx5 B (Cx1 base p1 p2 p3)) (PySem.W.mg_of X G ax5) kx5 bx5
  have Fx6 := fun_mk (st := s__law_faulty) lx6 cx6 kx6
  have bx6 := Fx6.binds (ps := ["draws"]) fun _ _ _ _ _ _ us hl => match us, hl with | [_], _ => rfl
  have Cx6 : ∀ base : Heap, K.In base → base.Ns mainGlobals mg → (∀ p ∈ ([(Kcx10, Ktx10)] : List (Addr × Addr)), LamX.TabB base mg p.1 p.2) → WP.Callee l.prog w K mg base CX0 3 "_law_faulty" ["draws"] (sp__law_faulty K mg) := fun base p1 p2 p3 => WP.Callee.mk' (ok__law_faulty Fx6 B (Cx1 base p1 p2 p3) (Cx5 base p1 p2 p3)) (PySem.W.mg_of X G ax6) kx6 bx6
  have Fx7 := fun_mk (st := s__law_quoted) lx7 cx7 kx7
  have bx7 := Fx7.binds (ps := ["string"]) fun _ _ _ _ _ _ us hl => match us, hl with | [_], _ => rfl
  have Cx7 : ∀ base : Heap, K.In base → base.Ns mainGlobals mg → (∀ p ∈ ([(Kcx10, Ktx10)] : List (Addr × Addr)), LamX.TabB base mg p.1 p.2) → WP.Callee l.prog w K mg base CX0 1 "_law_quoted" ["string"] (sp__law_quoted K mg) := fun base p1 p2 p3 => WP.Callee.mk' (ok__law_quoted Fx7 B ) (PySem.W.mg_of X G ax7) kx7 bx7
  have Fx8 := fun_mk (st := s__law_build) lx8 cx8 kx8
  have bx8 := Fx8.binds (ps := ["draws", "count", "faulty"]) fun _ _ _ _ _ _ us hl => match us, hl with | [_, _, _], _ => rfl
  have Cx8 : ∀ base : Heap, K.In base → base.Ns mainGlobals mg → (∀ p ∈ ([(Kcx10, Ktx10)] : List (Addr × Addr)), LamX.TabB base mg p.1 p.2) → WP.Callee l.prog w K mg base CX0 4 "_law_build" ["draws", "count", "faulty"] (sp__law_build K mg) := fun base p1 p2 p3 => WP.Callee.mk' (ok__law_build Fx8 B (Cx3 base p1 p2 p3) (Cx4 base p1 p2 p3) (Cx6 base p1 p2 p3) (Cx1 base p1 p2 p3) (Cx2 base p1 p2 p3) (Cx5 base p1 p2 p3) (Cx7 base p1 p2 p3)) (PySem.W.mg_of X G ax8) kx8 bx8
  have Fx9 := fun_mk (st := s_BadProgram___init__) lx9 cx9 kx9
  have bx9 := Fx9.binds (ps := ["self", "line", "reason"]) fun _ _ _ _ _ _ us hl => match us, hl with | [_, _, _], _ => rfl
  have Cx9 : ∀ base : Heap, K.In base → base.Ns mainGlobals mg → (∀ p ∈ ([(Kcx10, Ktx10)] : List (Addr × Addr)), LamX.TabB base mg p.1 p.2) → WP.CalleeE l.prog w K mg base CX0 1 "BadProgram" ["self", "line", "reason"] (sp_BadProgram___init__ K mg) := fun base p1 p2 p3 => WP.CalleeE.mk' (ok_BadProgram___init__ Fx9 B ) (PySem.W.mg_of X G on_BadProgram) ax9 tfx9 bx9
  have Fx10 := fun_mk (st := s_is_printable) lx10 cx10 kx10
  have FCx10 := WP.funC_mk (st := s_is_printable) (y := "is_printable") lx10 cx10 tbx10
  have bx10 := Fx10.binds (ps := ["value"]) fun _ _ _ _ _ _ us hl => match us, hl with | [_], _ => rfl
  have Cx10 : ∀ base : Heap, K.In base → base.Ns mainGlobals mg → (∀ p ∈ ([(Kcx10, Ktx10)] : List (Addr × Addr)), LamX.TabB base mg p.1 p.2) → WP.Callee l.prog w K mg base CX0 1 "is_printable" ["value"] (sp_is_printable K mg) := fun base p1 p2 p3 => WP.Callee.mk' (ok_is_printable FCx10 (WP.tabB_of (p3 (Kcx10, Ktx10) (.head _)) tbx10) B ) (PySem.W.mg_of X G ax10) kx10 bx10
  have Fx11 := fun_mk (st := s__end_of_string) lx11 cx11 kx11
  have bx11 := Fx11.binds (ps := ["row", "line", "start"]) fun _ _ _ _ _ _ us hl => match us, hl with | [_, _, _], _ => rfl
  have Cx11 : ∀ base : Heap, K.In base → base.Ns mainGlobals mg → (∀ p ∈ ([(Kcx10, Ktx10)] : List (Addr × Addr)), LamX.TabB base mg p.1 p.2) → WP.Callee l.prog w K mg base (L2N.CX l.prog w) 3 "_end_of_string" ["row", "line", "start"] (sp__end_of_string K mg) := fun base p1 p2 p3 => WP.Callee.mk' (ok__end_of_string Fx11 B (Cx9 base p1 p2 p3)) (PySem.W.mg_of X G ax11) kx11 bx11
  have Fx12 := fun_mk (st := s__end_of_word) lx12 cx12 kx12
  have bx12 := Fx12.binds (ps := ["row", "line", "start"]) fun _ _ _ _ _ _ us hl => match us, hl with | [_, _, _], _ => rfl
  have Cx12 : ∀ base : Heap, K.In base → base.Ns mainGlobals mg → (∀ p ∈ ([(Kcx10, Ktx10)] : List (Addr × Addr)), LamX.TabB base mg p.1 p.2) → WP.Callee l.prog w K mg base (L2N.CX l.prog w) 3 "_end_of_word" ["row", "line", "start"] (sp__end_of_word K mg) := fun base p1 p2 p3 => WP.Callee.mk' (ok__end_of_word Fx12 B (Cx9 base p1 p2 p3)) (PySem.W.mg_of X G ax12) kx12 bx12
  have Fx13 := fun_mk (st := s__tokens_of_line) lx13 cx13 kx13
  have bx13 := Fx13.binds (ps := ["row", "line"]) fun _ _ _ _ _ _ us hl => match us, hl with | [_, _], _ => rfl
  have Cx13 : ∀ base : Heap, K.In base → base.Ns mainGlobals mg → (∀ p ∈ ([(Kcx10, Ktx10)] : List (Addr × Addr)), LamX.TabB base mg p.1 p.2) → WP.Callee l.prog w K mg base (L2N.CX l.prog w) 4 "_tokens_of_line" ["row", "line"] (sp__tokens_of_line K mg) := fun base p1 p2 p3 => WP.Callee.mk' (ok__tokens_of_line Fx13 B (Cx11 base p1 p2 p3) (Cx12 base p1 p2 p3)) (PySem.W.mg_of X G ax13) kx13 bx13
  have Fx14 := fun_mk (st := s_tokens) lx14 cx14 kx14
  have bx14 := Fx14.binds (ps := ["text"]) fun _ _ _ _ _ _ us hl => match us, hl with | [_], _ => rfl
  have Cx14 : ∀ base : Heap, K.In base → base.Ns mainGlobals mg → (∀ p ∈ ([(Kcx10, Ktx10)] : List (Addr × Addr)), LamX.TabB base mg p.1 p.2) → WP.Callee l.prog w K mg base (L2N.CX l.prog w) 5 "tokens" ["text"] (sp_tokens K mg) := fun base p1 p2 p3 => WP.Callee.mk' (ok_tokens Fx14 B (Cx9 base p1 p2 p3) (Cx10 base p1 p2 p3) (Cx13 base p1 p2 p3)) (PySem.W.mg_of X G ax14) kx14 bx14
  have Fx15 := fun_mk (st := s__law_same) lx15 cx15 kx15
  have bx15 := Fx15.binds (ps := ["actual", "expected"]) fun _ _ _ _ _ _ us hl => match us, hl with | [_, _], _ => rfl
  have Cx15_0 : ∀ base : Heap, K.In base → base.Ns mainGlobals mg → (∀ p ∈ ([(Kcx10, Ktx10)] : List (Addr × Addr)), LamX.TabB base mg p.1 p.2) → WP.Callee l.prog w K mg base CX0 0 "_law_same" ["actual", "expected"] (sp__law_same K mg 0) := fun base p1 p2 p3 => WP.Callee.mk' ⟨fun _ _ _ _ h => (h : False).elim, fun _ _ _ _ _ _ _ _ _ _ _ _ _ h => (h : False).elim⟩ (PySem.W.mg_of X G ax15) kx15 bx15
  have Cx15_1 : ∀ base : Heap, K.In base → base.Ns mainGlobals mg → (∀ p ∈ ([(Kcx10, Ktx10)] : List (Addr × Addr)), LamX.TabB base mg p.1 p.2) → WP.Callee l.prog w K mg base CX0 1 "_law_same" ["actual", "expected"] (sp__law_same K mg 1) := fun base p1 p2 p3 => WP.Callee.mk' (ok__law_same (nn := 0) Fx15 B  (Cx15_0 base p1 p2 p3)) (PySem.W.mg_of X G ax15) kx15 bx15
  have Cx15_2 : ∀ base : Heap, K.In base → base.Ns mainGlobals mg → (∀ p ∈ ([(Kcx10, Ktx10)] : List (Addr × Addr)), LamX.TabB base mg p.1 p.2) → WP.Callee l.prog w K mg base CX0 2 "_law_same" ["actual", "expected"] (sp__law_same K mg 2) := fun base p1 p2 p3 => WP.Callee.mk' (ok__law_same (nn := 1) Fx15 B  (Cx15_1 base p1 p2 p3)) (PySem.W.mg_of X G ax15) kx15 bx15
  have Cx15_3 : ∀ base : Heap, K.In base → base.Ns mainGlobals mg → (∀ p ∈ ([(Kcx10, Ktx10)] : List (Addr × Addr)), LamX.TabB base mg p.1 p.2) → WP.Callee l.prog w K mg base CX0 3 "_law_same" ["actual", "expected"] (sp__law_same K mg 3) := fun base p1 p2 p3 => WP.Callee.mk' (ok__law_same (nn := 2) Fx15 B  (Cx15_2 base p1 p2 p3)) (PySem.W.mg_of X G ax15) kx15 bx15
  have Cx15 := Cx15_3
  have CHx15_0 : ∀ base : Heap, K.In base → base.Ns mainGlobals mg → (∀ p ∈ ([(Kcx10, Ktx10)] : List (Addr × Addr)), LamX.TabB base mg p.1 p.2) → WP.CalleeH l.prog w K mg base CX0 0 "_law_same" ["actual", "expected"] (sp__law_same K mg 0) := fun base p1 p2 p3 => WP.CalleeH.mk' ⟨fun _ _ _ _ h => (h : False).elim, fun _ _ _ _ _ _ _ _ _ _ _ _ _ _ _ _ h => (h : False).elim⟩ (PySem.W.mg_of X G ax15) kx15 bx15
  have CHx15_1 : ∀ base : Heap, K.In base → base.Ns mainGlobals mg → (∀ p ∈ ([(Kcx10, Ktx10)] : List (Addr × Addr)), LamX.TabB base mg p.1 p.2) → WP.CalleeH l.prog w K mg base CX0 1 "_law_same" ["actual", "expected"] (sp__law_same K mg 1) := fun base p1 p2 p3 => WP.CalleeH.mk' (okH__law_same (nn := 0) Fx15 B (CHx15_0 base p1 p2 p3)) (PySem.W.mg_of X G ax15) kx15 bx15
  have CHx15_2 : ∀ base : Heap, K.In base → base.Ns mainGlobals mg → (∀ p ∈ ([(Kcx10, Ktx10)] : List (Addr × Addr)), LamX.TabB base mg p.1 p.2) → WP.CalleeH l.prog w K mg base CX0 2 "_law_same" ["actual", "expected"] (sp__law_same K mg 2) := fun base p1 p2 p3 => WP.CalleeH.mk' (okH__law_same (nn := 1) Fx15 B (CHx15_1 base p1 p2 p3)) (PySem.W.mg_of X G ax15) kx15 bx15
  have CHx15_3 : ∀ base : Heap, K.In base → base.Ns mainGlobals mg → (∀ p ∈ ([(Kcx10, Ktx10)] : List (Addr × Addr)), LamX.TabB base mg p.1 p.2) → WP.CalleeH l.prog w K mg base CX0 3 "_law_same" ["actual", "expected"] (sp__law_same K mg 3) := fun base p1 p2 p3 => WP.CalleeH.mk' (okH__law_same (nn := 2) Fx15 B (CHx15_2 base p1 p2 p3)) (PySem.W.mg_of X G ax15) kx15 bx15
  have CHx15 := CHx15_3
  have Fx16 := fun_mk (st := s__law_raises) lx16 cx16 kx16
  have bx16 := Fx16.binds (ps := ["text", "line", "reason"]) fun _ _ _ _ _ _ us hl => match us, hl with | [_, _, _], _ => rfl
  have Cx16 : ∀ base : Heap, K.In base → base.Ns mainGlobals mg → (∀ p ∈ ([(Kcx10, Ktx10)] : List (Addr × Addr)), LamX.TabB base mg p.1 p.2) → WP.Callee l.prog w K mg base CX0 6 "_law_raises" ["text", "line", "reason"] (sp__law_raises K mg) := fun base p1 p2 p3 => WP.Callee.mk' (ok__law_raises Fx16 B (Cx14 base p1 p2 p3) (Cx15 base p1 p2 p3) (CHx15 base p1 p2 p3)) (PySem.W.mg_of X G ax16) kx16 bx16
  have Fx17 := fun_mk (st := s_quoted) lx17 cx17 kx17
  have bx17 := Fx17.binds (ps := ["string"]) fun _ _ _ _ _ _ us hl => match us, hl with | [_], _ => rfl
  have Cx17 : ∀ base : Heap, K.In base → base.Ns mainGlobals mg → (∀ p ∈ ([(Kcx10, Ktx10)] : List (Addr × Addr)), LamX.TabB base mg p.1 p.2) → WP.Callee l.prog w K mg base CX0 1 "quoted" ["string"] (sp_quoted K mg) := fun base p1 p2 p3 => WP.Callee.mk' (ok_quoted Fx17 B ) (PySem.W.mg_of X G ax17) kx17 bx17
  have Fx18 := fun_mk (st := s_law) lx18 cx18 kx18
  exact ⟨PySem.W.fnOf "law" "law" (defArgs s_law) (defBody s_law) (defScope s_law) .none kVx18 dcx18 pmx18 anx18 cdx18 ctx18, [(Kcx10, Ktx10)], sp_law K, (List.forall_mem_cons.mpr ⟨hdx10.2, (fun _ h => nomatch h)⟩), (List.forall_mem_cons.mpr ⟨nkx10, (fun _ h => nomatch h)⟩), (List.forall_mem_cons.mpr ⟨hdx10.1, (fun _ h => nomatch h)⟩), fun s v => .of_eq rfl, fun H a ns hl _ hT hS => ⟨a, ns, rfl, hS, hl, ⟨#[], by rw [WP.tbl_of tbx10]; exact hT (Kcx10, Ktx10) (.head _), True.intro⟩, fun _ => rfl⟩, fun base p1 p2 p3 => ok_law Fx18 B (Cx0 base p1 p2 p3) (Cx1 base p1 p2 p3) (Cx2 base p1 p2 p3) (Cx8 base p1 p2 p3) (Cx14 base p1 p2 p3) (Cx15 base p1 p2 p3) (Cx16 base p1 p2 p3) (Cx17 base p1 p2 p3) (Cx7 base p1 p2 p3)⟩
end D
open PySem PySem.W PyProof.Rows
set_option maxRecDepth 100000 in
set_option maxHeartbeats 0 in
theorem PySem.Challenge.cw_cardwright_k30_tokens_holds : PySem.Challenge.rw_cardwright_k30_tokens.Holds := by
  w_on; o_law; k_head; (case hw => w_witness2)
  k_fill
  refine WP.walk_ofG (l := PySem.Challenge.rw_cardwright_k30_tokens) (n := 63) (k := 7) (x := "script") (CX := fun _ => L2.CX0) rfl (by decide) rfl ⟨rfl, by decide, by decide⟩ (fun w h Y => PySem.W.kIn_of Y) ?F (fun _ _ _ _ _ z => z)
  case F =>
    intro w mg fa h Y KX G hmg hT
    refine' D.all_mk KX G hmg ?on_BadData ?xo_BadData ?xx_BadData ?xc_BadData ?ot_BadData_0 ?ot_BadData_1 ?on_BadPart ?xo_BadPart ?xx_BadPart ?xc_BadPart ?ot_BadPart_0 ?ot_BadPart_1 ?on_BadProgram ?xo_BadProgram ?xx_BadProgram ?xc_BadProgram ?ot_BadProgram_0 ?ot_BadProgram_1 ?ax0 ?lx0 ?cx0 ?kx0 ?ax1 ?lx1 ?cx1 ?kx1 ?ax2 ?lx2 ?cx2 ?kx2 ?ax3 ?lx3 ?cx3 ?kx3 ?ax4 ?lx4 ?cx4 ?kx4 ?ax5 ?lx5 ?cx5 ?kx5 ?ax6 ?lx6 ?cx6 ?kx6 ?ax7 ?lx7 ?cx7 ?kx7 ?ax8 ?lx8 ?cx8 ?kx8 ?ax9 ?ix9 ?lx9 ?cx9 ?kx9 ?tfx9 ?ax10 ?tbx10 ?lx10 ?cx10 ?kx10 ?hdx10 ?nkx10 ?ax11 ?lx11 ?cx11 ?kx11 ?ax12 ?lx12 ?cx12 ?kx12 ?ax13 ?lx13 ?cx13 ?kx13 ?ax14 ?lx14 ?cx14 ?kx14 ?ax15 ?lx15 ?cx15 ?kx15 ?ax16 ?lx16 ?cx16 ?kx16 ?ax17 ?lx17 ?cx17 ?kx17 ?ax18 ?lx18 ?cx18 ?kx18 ?z_ValueError ?z_all ?z_bool ?z_enumerate ?z_int ?z_isinstance ?z_len ?z_list ?z_ord ?z_range ?z_sorted ?z_str ?z_tuple ?g_DOUBLED_QUOTE ?g_FIRST_PRINTABLE ?g_LAST_PRINTABLE ?g_MOST_PROGRAM ?g_NOT_PRINTABLE ?g_QUOTE ?tn_DOUBLED_QUOTE_QUOTE ?tn_QUOTE_DOUBLED_QUOTE ?n_BadDecimal ?x_BadDecimal ?kc_BadDecimal ?tc_BadDecimal ?hg_BadDecimal ?hk_BadDecimal ?hs_BadDecimal ?hd_BadDecimal ?ha_BadDecimal ?hm_BadDecimal ?n_CardError ?x_CardError ?kc_CardError ?tc_CardError ?hg_CardError ?hk_CardError ?hs_CardError ?hd_CardError ?ha_CardError ?hm_CardError ?hn_ ?ht_ ?t_BadProgram_ValueError ?s_BadProgram_BadProgram ?i_BadProgram_BadData ?i_BadProgram_BadDecimal ?i_BadProgram_BadPart ?i_BadProgram_CardError
    (case on_BadData => k_is); (case xo_BadData => exact ⟨⟨_, _, _, _, _, _, _, _, _, _, _, _, _, _, _, by k_is, by decide +kernel⟩, by k_is, by k_is, by k_is, by k_is⟩); (case xx_BadData => exact ⟨by k_is, by k_is, by k_is, by k_is⟩); (case xc_BadData => exact ⟨by k_is, by k_is, by k_is, by k_is, by k_is, by k_is, by k_is, by k_is⟩); (case ot_BadData_0 => k_is); (case ot_BadData_1 => k_is)
    (case on_BadPart => k_is); (case xo_BadPart => exact ⟨⟨_, _, _, _, _, _, _, _, _, _, _, _, _, _, _, by k_is, by decide +kernel⟩, by k_is, by k_is, by k_is, by k_is⟩); (case xx_BadPart => exact ⟨by k_is, by k_is, by k_is, by k_is⟩); (case xc_BadPart => exact ⟨by k_is, by k_is, by k_is, by k_is, by k_is, by k_is, by k_is, by k_is⟩); (case ot_BadPart_0 => k_is); (case ot_BadPart_1 => k_is)
    (case on_BadProgram => k_is); (case xo_BadProgram => exact ⟨⟨_, _, _, _, _, _, _, _, _, _, _, _, _, _, _, by k_is, by decide +kernel⟩, by k_is, by k_is, by k_is, by k_is⟩); (case xx_BadProgram => exact ⟨by k_is, by k_is, by k_is, by k_is⟩); (case xc_BadProgram => exact ⟨by k_is, by k_is, by k_is, by k_is, by k_is, by k_is, by k_is, by k_is⟩); (case ot_BadProgram_0 => k_is); (case ot_BadProgram_1 => k_is)
    (case ax0 => k_is); (case lx0 => k_is); (case cx0 => k_is); (case kx0 => k_is); (case ax1 => k_is); (case lx1 => k_is)
    (case cx1 => k_is); (case kx1 => k_is); (case ax2 => k_is); (case lx2 => k_is); (case cx2 => k_is); (case kx2 => k_is)
    (case ax3 => k_is); (case lx3 => k_is); (case cx3 => k_is); (case kx3 => k_is); (case ax4 => k_is); (case lx4 => k_is)
    (case cx4 => k_is); (case kx4 => k_is); (case ax5 => k_is); (case lx5 => k_is); (case cx5 => k_is); (case kx5 => k_is)
    (case ax6 => k_is); (case lx6 => k_is); (case cx6 => k_is); (case kx6 => k_is); (case ax7 => k_is); (case lx7 => k_is)
    (case cx7 => k_is); (case kx7 => k_is); (case ax8 => k_is); (case lx8 => k_is); (case cx8 => k_is); (case kx8 => k_is)
    (case ax9 => k_is); (case ix9 => k_is); (case lx9 => k_is); (case cx9 => k_is); (case kx9 => k_is); (case tfx9 => k_is)
    (case ax10 => k_is); (case tbx10 => exact rfl); (case lx10 => k_is); (case cx10 => k_is); (case kx10 => k_is); (case hdx10 => exact hT "is_printable" _ _ (by decide +kernel) rfl)
    (case nkx10 => exact rfl); (case ax11 => k_is); (case lx11 => k_is); (case cx11 => k_is); (case kx11 => k_is); (case ax12 => k_is)
    (case lx12 => k_is); (case cx12 => k_is); (case kx12 => k_is); (case ax13 => k_is); (case lx13 => k_is); (case cx13 => k_is)
    (case kx13 => k_is); (case ax14 => k_is); (case lx14 => k_is); (case cx14 => k_is); (case kx14 => k_is); (case ax15 => k_is)
    (case lx15 => k_is); (case cx15 => k_is); (case kx15 => k_is); (case ax16 => k_is); (case lx16 => k_is); (case cx16 => k_is)
    (case kx16 => k_is); (case ax17 => k_is); (case lx17 => k_is); (case cx17 => k_is); (case kx17 => k_is); (case ax18 => k_is)
    (case lx18 => k_is); (case cx18 => k_is); (case kx18 => k_is); (case z_ValueError => k_is); (case z_all => k_is); (case z_bool => k_is)
    (case z_enumerate => k_is); (case z_int => k_is); (case z_isinstance => k_is); (case z_len => k_is); (case z_list => k_is); (case z_ord => k_is)
    (case z_range => k_is); (case z_sorted => k_is); (case z_str => k_is); (case z_tuple => k_is); (case g_DOUBLED_QUOTE => k_is); (case g_FIRST_PRINTABLE => k_is)
    (case g_LAST_PRINTABLE => k_is); (case g_MOST_PROGRAM => k_is); (case g_NOT_PRINTABLE => k_is); (case g_QUOTE => k_is); (case tn_DOUBLED_QUOTE_QUOTE => exact ⟨by decide, by decide, by decide⟩); (case tn_QUOTE_DOUBLED_QUOTE => exact ⟨by decide, by decide, by decide⟩)
    (case n_BadDecimal => k_is); (case x_BadDecimal => k_exc); (case kc_BadDecimal => k_is); (case tc_BadDecimal => k_is); (case hg_BadDecimal => k_is); (case hk_BadDecimal => k_is)
    (case hs_BadDecimal => k_is); (case hd_BadDecimal => k_is); (case ha_BadDecimal => k_is); (case hm_BadDecimal => k_is); (case n_CardError => k_is); (case x_CardError => k_exc)
    (case kc_CardError => k_is); (case tc_CardError => k_is); (case hg_CardError => k_is); (case hk_CardError => k_is); (case hs_CardError => k_is); (case hd_CardError => k_is)
    (case ha_CardError => k_is); (case hm_CardError => k_is); (case hn_ => k_is); (case ht_ => k_is); (case t_BadProgram_ValueError => first | kit_is | k_is); (case s_BadProgram_BadProgram => k_is)
    (case i_BadProgram_BadData => kit_is); (case i_BadProgram_BadDecimal => kit_is); (case i_BadProgram_BadPart => kit_is); (case i_BadProgram_CardError => kit_is)
#print axioms PySem.Challenge.cw_cardwright_k30_tokens_holds
