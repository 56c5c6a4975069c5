import PyProof.Rows.All
import Wide.All
import OpenK.AllK
import Wide.FinOn
import HandS.ForMost
import HandS.Wide
import HandS.IsInst
import HandS.Evl
import HandS.ForExc
import HandS.ExcIs
import HandS.WideBits
import HandS.AnyAll
import HandS.Codes
import HandS.Comp
import HandS.Defaults
import HandS.Dict
import HandS.EndTab
import HandS.Evl
import HandS.ExcCtx
import HandS.ExcField
import HandS.ExcInit
import HandS.ExcInitHot
import HandS.HotCalls
import HandS.Iter
import HandS.MakeKwOnly
import HandS.MapJoin
import HandS.MapObj
import HandS.More
import HandS.Property
import HandS.RaiseFrom
import HandS.ReplaceDef
import HandS.ReplaceList
import HandS.ReplaceLit
import HandS.Rev
import HandS.RevTup
import HandS.Sort
import HandS.Star
import HandS.StrMore
import HandS.Style
import HandS.SuiteRaise
import HandS.Text
import HandS.Walk
import HandS.Zip
import KE.GoesEnumKw
import KE.KExcIs
import KE.KSortTupG
import PySem.Challenge.RW_cardwright_k31_cursor
set_option Elab.async false
set_option linter.all false
set_option maxRecDepth 100000
set_option maxHeartbeats 4000000
namespace D
def Box (p : Prop) : Prop := p
theorem box_eq {p : Prop} (h : p) : Box p = True := eq_true h
end D
namespace WP
open PySem PySem.Spec PyProof.Rows L2
/-! ### a def that may be called -/
structure Callee (P : Program) (w : World) (K : PySem.W.Frag) (mg : Str → Option Value) (base : Heap) (CX : CXT) (lv : Nat) (nm : Str) (ps : List Str) (sp : Sp) : Prop where
  ex : ∃ (f : Addr) (fd : FuncData), FnOk P w K mg base CX lv f fd ps sp ∧ mg nm = some (.ref f) ∧ PySem.W.keepIn K (.ref f) = true ∧ Binds K fd ps []
theorem Callee.mk' {P : Program} {w : World} {K : PySem.W.Frag} {mg : Str → Option Value} {base : Heap} {CX : CXT} {lv : Nat} {nm : Str} {ps : List Str} {sp : Sp} {f : Addr} {fd : FuncData}
    (h : FnOk P w K mg base CX lv f fd ps sp) (m : mg nm = some (.ref f)) (k : PySem.W.keepIn K (.ref f) = true) (b : Binds K fd ps []) : Callee P w K mg base CX lv nm ps sp := ⟨⟨f, fd, h, m, k, b⟩⟩
section
variable {X : Cx} {CX : CXT} {k j : Nat} {ps : List Str} {sp : Sp} {E : XK} {x : Str} {p pos : Pos} {e : Expr} {es : List Expr} {t : TA}
theorem pe_callC (C : Callee X.prog X.w X.K X.mg X.base CX k x ps sp) (hr : Room j X.A) (hg : Gl X x) (hx : Passes CX X E) (ha : PA X (e :: es) t) (hl : k ≤ j := by decide)
    (hdb : (x == ("__debug__" : Str)) = false := by decide) (he : starEach (e :: es) X.env = (false, eval e X.env) :: starEach es X.env := by rfl) (hpl : (backTo pos (starEach es X.env)).any (·.1) = false := by rfl) :
    PE X (.Call (.Name x p) (e :: es) [] pos) (tCall sp [] E t) := by
  obtain ⟨f, fd, F, hm, hk, hb⟩ := C.ex
  exact pe_call F (hr.mono hl) hg hm hk hb .nil hx ha hdb he hpl
theorem pe_callC0 (C : Callee X.prog X.w X.K X.mg X.base CX k x ps sp) (hr : Room j X.A) (hg : Gl X x) (hx : Passes CX X E) (hl : k ≤ j := by decide)
    (hdb : (x == ("__debug__" : Str)) = false := by decide) : PE X (.Call (.Name x p) [] [] pos) (tCall sp [] E tNil) := by
  obtain ⟨f, fd, F, hm, hk, hb⟩ := C.ex
  exact pe_call0 F (hr.mono hl) hg hm hk hb .nil hx hdb
end
/-! ### readings, a step at a time -/
section
variable {σ : L2.St} {H : Hp} {D : Ends} {t u : TS} {te ta tb : TE} {tt tu : TT} {g : TG} {Q : VK} {QB : Bool → Hp → Prop} {QA : List V → Hp → Prop} {r : R2} {i j : Int} {n : Nat} {v x y : V}
theorem seq (h : t { D with nx := u D } σ H) : tSeq t u D σ H := h
theorem asg (h : te σ H fun x H1 => g x σ H1 D.nx) : tAsg te g D σ H := h
theorem name {QS : L2.St → Hp → Prop} (h : QS (σ.set n (some v)) H) : gName n v σ H QS := h
theorem var (e : σ[n]? = some (some v)) (h : Q v H) : tVar n σ H Q := ⟨v, e, h⟩
theorem con (h : Q v H) : tC v σ H Q := h
theorem op (h : ta σ H fun x H1 => tb σ H1 fun y H2 => r x y H2 Q) : tOp r ta tb σ H Q := h
theorem un {ru : V → Hp → VK → Prop} (h : ta σ H fun x H1 => ru x H1 Q) : tUn ru ta σ H Q := h
theorem rU_ {g : Int → V} (h : Q (g i) H) : rU g (.int i) H Q := ⟨i, rfl, h⟩
theorem i0 {g : Int → Int → V} (h : Q (g i j) H) : rI0 g (.int i) (.int j) H Q := ⟨i, j, rfl, rfl, h⟩
theorem iC {C : Int → Int → Prop} {g : Int → Int → V} (c : C i j) (h : Q (g i j) H) : rI C g (.int i) (.int j) H Q := ⟨i, j, rfl, rfl, c, h⟩
theorem ifS (h : tt σ H fun b H1 => if b = true then t D σ H1 else u D σ H1) : tIfS tt t u D σ H := h
theorem ifE (h : tt σ H fun b H1 => if b = true then ta σ H1 Q else tb σ H1 Q) : tIf tt ta tb σ H Q := h
theorem test (h : te σ H fun x H1 => ∃ k, x = .bl k ∧ QB k H1) : tTest te σ H QB := h
theorem bt (h : te σ H fun x H1 => ∃ k, x = .bl k ∧ QB k H1) : tB te σ H QB := h
theorem ret (h : te σ H D.rt) : tRet te D σ H := h
theorem retN (h : D.rt .non H) : tRetN D σ H := h
theorem drop (h : te σ H fun _ H1 => D.nx σ H1) : tDrop te D σ H := h
theorem next (h : D.nx σ H) : tNext D σ H := h
theorem brk (h : D.bk σ H) : tBreak D σ H := h
theorem cont (h : D.ct σ H) : tCont D σ H := h
theorem cb {rc : List V → Hp → VK → Prop} {a : TA} (h : a σ H fun vs H1 => rc vs H1 Q) : tCB rc a σ H Q := h
theorem call {sp : Sp} {E : XK} {a : TA} (h : a σ H fun vs H1 => sp (vs ++ []) H1 Q E) : tCall sp [] E a σ H Q := h
theorem cons {a : TA} (h : te σ H fun x H1 => a σ H1 fun xs H2 => QA (x :: xs) H2) : tCons te a σ H QA := h
theorem nil (h : QA [] H) : tNil σ H QA := h
theorem tup {a : TA} (h : a σ H fun xs H1 => xs.length ≤ sizeLine ∧ ∀ p, H1 p = none → Q (.ref p) (upd H1 p (.tup xs))) : tTup a σ H Q := h
theorem lst {a : TA} (h : a σ H fun xs H1 => xs.length ≤ sizeLine ∧ ∀ p, H1 p = none → Q (.ref p) (upd H1 p (.lst xs))) : tLst a σ H Q := h
theorem notT (h : tt σ H fun c H1 => QB (!c) H1) : tNot tt σ H QB := h
theorem andT (h : tt σ H fun c H1 => if c = true then tu σ H1 QB else QB false H1) : tAnd tt tu σ H QB := h
theorem orT (h : tt σ H fun c H1 => if c = true then QB true H1 else tu σ H1 QB) : tOr tt tu σ H QB := h
theorem andV (h : ta σ H fun x H1 => ∃ c, x = .bl c ∧ if c = true then tb σ H1 Q else Q (.bl false) H1) : tAndV ta tb σ H Q := h
theorem orV (h : ta σ H fun x H1 => ∃ c, x = .bl c ∧ if c = true then Q (.bl true) H1 else tb σ H1 Q) : tOrV ta tb σ H Q := h
theorem notV (h : ta σ H fun x H1 => ∃ c, x = .bl c ∧ Q (.bl (!c)) H1) : tNotV ta σ H Q := h
theorem isbV {b : Bool} {R : Bool → Prop} (h : R b) : ∃ k, V.bl b = V.bl k ∧ R k := ⟨b, rfl, h⟩
theorem sl {r : V → Option Int → Option Int → Hp → VK → Prop} {tl th : TO} (h : te σ H fun x H1 => tl σ H1 fun l H2 => th σ H2 fun u H3 => r x l u H3 Q) : tSl r te tl th σ H Q := h
theorem noPart {QO : Option Int → Hp → Prop} (h : QO none H) : tNoPart σ H QO := h
theorem part {QO : Option Int → Hp → Prop} (h : te σ H fun x H1 => ∃ i, x = .int i ∧ QO (some i) H1) : tPart te σ H QO := h
theorem isi {R : Int → Prop} (h : R i) : ∃ k, V.int i = V.int k ∧ R k := ⟨i, rfl, h⟩
/-- tests -/
theorem br {c A B : Prop} [Decidable c] (h1 : c → A) (h2 : ¬ c → B) : if decide c = true then A else B := by
  by_cases h : c
  · rw [decide_eq_true h, if_pos rfl]; exact h1 h
  · rw [decide_eq_false h, if_neg Bool.false_ne_true]; exact h2 h
theorem brN {c A B : Prop} [Decidable c] (h1 : ¬ c → A) (h2 : c → B) : if (!decide c) = true then A else B := by
  by_cases h : c
  · rw [decide_eq_true h]; exact iteF (h2 h)
  · rw [decide_eq_false h]; exact iteT (h1 h)
theorem brT {b : Bool} {A B : Prop} (e : b = true) (h : A) : if b = true then A else B := by rw [if_pos e]; exact h
theorem brF {b : Bool} {A B : Prop} (e : b = false) (h : B) : if b = true then A else B := by rw [if_neg (by rw [e]; exact Bool.false_ne_true)]; exact h
theorem brB {b : Bool} {A B : Prop} (h1 : b = true → A) (h2 : b = false → B) : if b = true then A else B := by
  cases b
  · exact iteF (h2 rfl)
  · exact iteT (h1 rfl)
theorem dec_int {i j : Int} : decide (V.int i = V.int j) = decide (i = j) := by
  by_cases h : i = j
  · rw [decide_eq_true h, decide_eq_true (congrArg V.int h)]
  · rw [decide_eq_false h, decide_eq_false fun e => h (V.int.inj e)]
theorem dec_str {i j : Str} : decide (V.str i = V.str j) = decide (i = j) := by
  by_cases h : i = j
  · rw [decide_eq_true h, decide_eq_true (congrArg V.str h)]
  · rw [decide_eq_false h, decide_eq_false fun e => h (V.str.inj e)]
theorem dec_bl {i j : Bool} : decide (V.bl i = V.bl j) = decide (i = j) := by
  by_cases h : i = j
  · rw [decide_eq_true h, decide_eq_true (congrArg V.bl h)]
  · rw [decide_eq_false h, decide_eq_false fun e => h (V.bl.inj e)]
theorem eqI (h : Q (.bl (decide (i = j))) H) : rEq (.int i) (.int j) H Q := ⟨rfl, by rw [dec_int]; exact h⟩
theorem neI (h : Q (.bl (!decide (i = j))) H) : rNe (.int i) (.int j) H Q := ⟨rfl, by rw [dec_int]; exact h⟩
theorem eqT {a b : Str} (h : Q (.bl (decide (a = b))) H) : rEq (.str a) (.str b) H Q := ⟨rfl, by rw [dec_str]; exact h⟩
theorem neT {a b : Str} (h : Q (.bl (!decide (a = b))) H) : rNe (.str a) (.str b) H Q := ⟨rfl, by rw [dec_str]; exact h⟩
theorem eqB {a b : Bool} (h : Q (.bl (decide (a = b))) H) : rEq (.bl a) (.bl b) H Q := ⟨rfl, by rw [dec_bl]; exact h⟩
theorem neB {a b : Bool} (h : Q (.bl (!decide (a = b))) H) : rNe (.bl a) (.bl b) H Q := ⟨rfl, by rw [dec_bl]; exact h⟩
end
/-! ### numbers of a known number of bits -/
theorem sz2 : (2 : Nat) ≤ sizeLine := by rw [sizeLine_eq]; decide
theorem sz {n : Nat} (h : n ≤ 1000000) : n ≤ sizeLine := by rw [sizeLine_eq]; omega
end WP
namespace WP
open PySem PySem.Spec PyProof.Rows L2
section
variable {X : Cx} {x : Str} {v : V} {pos : Pos}
theorem pe_const (hg : Gl X x) (h : ∃ u, X.mg x = some u ∧ RelV v u) (hd : (x == ("__debug__" : Str)) = false := by decide) : PE X (.Name x pos) (tC v) := by
  obtain ⟨u, hm, r⟩ := h
  exact pe_glob hg hm r hd
end
/-- a number of at most a bits -/
def Bt (i : Int) (a : Nat) : Prop := i.natAbs < 2 ^ a
theorem Bt.mono {i : Int} {a b : Nat} (h : Bt i a) (l : a ≤ b) : Bt i b := Nat.lt_of_lt_of_le h (Nat.pow_le_pow_right (by decide) l)
theorem Bt.neg {i : Int} {a : Nat} (h : Bt i a) : Bt (-i) a := by unfold Bt at *; rw [Int.natAbs_neg]; exact h
theorem Bt.w {i j : Int} {a b : Nat} (h : Bt i a) (k : Bt j b) (l : a + b ≤ 999998 := by omega) : CMulW i j :=
  wide_mul (h.mono (Nat.le_succ a)) (k.mono (Nat.le_succ b)) (Nat.succ_pos _) (Nat.succ_pos _) (by omega)
theorem Bt.d {j : Int} {b : Nat} (h : 0 < j) (k : Bt j b) (l : b ≤ 8999 := by omega) : CDivW 0 j := wide_div h (k.mono (Nat.le_succ b)) (Nat.succ_pos _) (by omega)
theorem Bt.d' {i j : Int} {b : Nat} (h : 0 < j) (k : Bt j b) (l : b ≤ 8999 := by omega) : CDivW i j := Bt.d h k l
end WP
namespace WP
open PySem PySem.Spec PyProof.Rows L2
/-! ### what comes back -/
def RetT (xs : List V) (H : Hp) (Q : VK) : Prop := ∀ p H', Same H H' → H' p = some (.tup xs) → Q (.ref p) H'
def RetL (xs : List V) (H : Hp) (Q : VK) : Prop := ∀ p H', H p = none → Same H H' → H' p = some (.lst xs) → Q (.ref p) H'
def RetV (v : V) (H : Hp) (Q : VK) : Prop := ∀ H', Same H H' → Q v H'
theorem same_new {H : Hp} {p : Addr} {o : HO} (h : H p = none) : Same H (upd H p o) := fun b u e => by
  rw [upd_ne (ne_of_none e h)]; exact e
theorem same_mut {H H' : Hp} {p : Addr} {o : HO} (e : Same H H') (h : H p = none) : Same H (upd H' p o) := fun a u ha => by
  rw [upd_ne (ne_of_none ha h)]; exact e a u ha
theorem sqt {K : PySem.W.Frag} {H H' : Hp} {a : Addr} {xs : List V} (e : Same H H') (h : SqT K H a xs) : SqT K H' a xs := by
  rcases h with (h | ⟨o, h⟩) | h
  · exact .inl (.inl (e _ _ h))
  · exact .inl (.inr ⟨o, e _ _ h⟩)
  · exact .inr h
theorem RetT.new {xs : List V} {H H' : Hp} {Q : VK} (k : RetT xs H Q) (e : Same H H') : ∀ p, H' p = none → Q (.ref p) (upd H' p (.tup xs)) := fun p hp =>
  k p _ (e.trans (same_new hp)) upd_same
theorem RetL.new {xs : List V} {H H' : Hp} {Q : VK} (k : RetL xs H Q) (e : Same H H') : ∀ p, H' p = none → Q (.ref p) (upd H' p (.lst xs)) := fun p hp =>
  k p _ (e.free hp) (e.trans (same_new hp)) upd_same
/-- a decimal's two parts -/
abbrev dv (u : Int) (s : Nat) : List V := [.int u, .int (s : Int)]
theorem at0 {α : Type} {x : α} {xs : List α} : atI (x :: xs) (0 : Int) = some x := atI_nat (j := 0) rfl
theorem at1 {α : Type} {x y : α} {xs : List α} : atI (x :: y :: xs) (1 : Int) = some y := atI_nat (j := 1) rfl
theorem at2 {α : Type} {x y z : α} {xs : List α} : atI (x :: y :: z :: xs) (2 : Int) = some z := atI_nat (j := 2) rfl
theorem at3 {α : Type} {x y z u : α} {xs : List α} : atI (x :: y :: z :: u :: xs) (3 : Int) = some u := atI_nat (j := 3) rfl
section
variable {K : PySem.W.Frag} {H : Hp} {p : Addr} {xs : List V} {v : V} {i : Int} {Q : VK}
theorem ixT (h : SqT K H p xs) (a : atI xs i = some v) (q : Q v H) : rIxT K (.ref p) (.int i) H Q := ⟨p, xs, i, v, rfl, rfl, h, a, q⟩
theorem ixL (h : SqL K H p xs) (a : atI xs i = some v) (q : Q v H) : rIxL K (.ref p) (.int i) H Q := ⟨p, xs, i, v, rfl, rfl, h, a, q⟩
theorem unT {n : Nat} {t : TGs} {σ : L2.St} {QS : L2.St → Hp → Prop} (h : SqT K H p xs) (l : xs.length = n) (q : t xs σ H QS) : gTup K n t (.ref p) σ H QS := ⟨p, xs, rfl, h, l, q⟩
theorem gsCons {g : TG} {gs : TGs} {x : V} {r : List V} {σ : L2.St} {QS : L2.St → Hp → Prop} (q : g x σ H fun σ' H' => gs r σ' H' QS) : gCons g gs (x :: r) σ H QS := ⟨x, r, rfl, q⟩
theorem gsNil {σ : L2.St} {QS : L2.St → Hp → Prop} (q : QS σ H) : gNil [] σ H QS := ⟨rfl, q⟩
end
end WP
namespace WP
open PySem PySem.Spec PyProof.Rows L2
section
variable {K : PySem.W.Frag} {H : Hp} {p : Addr} {xs : List V} {v x : V} {i : Int} {Q : VK} {σ : L2.St} {D : Ends}
theorem forl {wi : TI} {g : TG} {tb : TS} (h : wi σ H fun J H1 => ∃ W : Nat → Nat → L2.St → Hp → Prop, (∃ m, W 0 m σ H1) ∧ ∀ i m σ H, W i m σ H →
  (J.stop i H ∧ D.nx σ H) ∨ (J.go i H ∧ ∃ N : L2.St → Hp → Prop, (∀ σ' H', N σ' H' → ∃ m', m' < m ∧ W (i + 1) m' σ' H') ∧ ∀ x H', J.yld i H x H' → g x σ H' fun σ2 H2 => tb { D with nx := N, ct := N, bk := D.nx } σ2 H2)) : tFor wi g tb D σ H := h
theorem rng1 {ta : TA} {R : It → Hp → Prop} (h : ta σ H fun vs H1 => ∃ j : Int, vs = [.int j] ∧ -(2 ^ 62) ≤ j ∧ j < 2 ^ 62 ∧ R (Itr 0 j.toNat) H1) : iRng1 ta σ H R := h
theorem rng2 {ta : TA} {R : It → Hp → Prop} (h : ta σ H fun vs H1 => ∃ i j : Int, vs = [.int i, .int j] ∧ (-(2 ^ 62) ≤ i ∧ i < 2 ^ 62 ∧ -(2 ^ 62) ≤ j ∧ j < 2 ^ 62) ∧ R (Itr i (j - i).toNat) H1) : iRng2 ta σ H R := h
theorem walkL {tl : TE} {R : It → Hp → Prop} (h : tl σ H fun x H1 => ∃ a, x = .ref a ∧ (∃ xs, SqL K H1 a xs) ∧ R (Itl K a) H1) : iList K tl σ H R := h
theorem walkT {tl : TE} {R : It → Hp → Prop} (h : tl σ H fun x H1 => ∃ a, x = .ref a ∧ (∃ xs, SqT K H1 a xs) ∧ R (Itt K a) H1) : iTup K tl σ H R := h
theorem isT {t n : String} {b : Bool} (ty : TyX K H x (.type t)) (q : Q (.bl b) H) (hb : kitB t n = some b := by decide +kernel) : rIsi K [x, .ty n] H Q :=
  ⟨x, .ty n, _, _, b, rfl, ClsV.ty n, ty, kit_ty hb, q⟩
theorem isY {t n : String} (ty : TyX K H x (.type t)) (q : Q (.bl true) H) (hb : kitB t n = some true := by decide +kernel) : rIsi K [x, .ty n] H Q := isT ty q hb
theorem isN {t n : String} (ty : TyX K H x (.type t)) (q : Q (.bl false) H) (hb : kitB t n = some false := by decide +kernel) : rIsi K [x, .ty n] H Q := isT ty q hb
def rLen (K : PySem.W.Frag) : List V → Hp → VK → Prop := fun xs H Q => ∃ x n, xs = [x] ∧ LenV K x H n ∧ Q (.int (n : Nat)) H
theorem c_len {X : Cx} : CallR X (.builtin "len") (rLen X.K) := call_len
theorem lenL (h : SqL K H p xs) (q : Q (.int (xs.length : Int)) H) : rLen K [V.ref p] H Q := ⟨_, _, rfl, .inl ⟨xs, h, rfl⟩, q⟩
theorem lenT (h : SqT K H p xs) (q : Q (.int (xs.length : Int)) H) : rLen K [V.ref p] H Q := ⟨_, _, rfl, .inr ⟨xs, h, rfl⟩, q⟩
def rInt1 : List V → Hp → VK → Prop := fun xs H Q => (∃ i, xs = [.int i] ∧ Q (.int i) H) ∨ ∃ k, xs = [.bl k] ∧ Q (.int (if k then 1 else 0)) H
theorem c_int1 {X : Cx} : CallR X (.type "int") rInt1 := call_int1
theorem intI (q : Q (.int i) H) : rInt1 [V.int i] H Q := .inl ⟨i, rfl, q⟩
theorem intB {b : Bool} (q : Q (.int (if b then 1 else 0)) H) : rInt1 [V.bl b] H Q := .inr ⟨b, rfl, q⟩
def rMin2 : List V → Hp → VK → Prop := fun xs H Q => ∃ i j, xs = [.int i, .int j] ∧ Q (.int (if j < i then j else i)) H
theorem c_min2 {X : Cx} (hc : X.calm = true) : CallR X (.builtin "min") rMin2 := call_min2 hc
theorem minI {j : Int} (q : Q (.int (min i j)) H) : rMin2 [V.int i, V.int j] H Q := ⟨i, j, rfl, by
  have e : (if j < i then j else i) = min i j := by split <;> omega
  rw [e]; exact q⟩
def rListOf (K : PySem.W.Frag) : List V → Hp → VK → Prop := fun xs H Q => ∃ p ys, xs = [.ref p] ∧ (SqL K H p ys ∨ SqT K H p ys) ∧ ∀ l, H l = none → Q (.ref l) (upd H l (.lst ys))
theorem c_listOf {X : Cx} : CallR X (.type "list") (rListOf X.K) := call_list_of
theorem listL (h : SqL K H p xs) (q : ∀ l, H l = none → Q (.ref l) (upd H l (.lst xs))) : rListOf K [V.ref p] H Q := ⟨p, xs, rfl, .inl h, q⟩
def rOrd : List V → Hp → VK → Prop := fun xs H Q => ∃ x : Str, xs = [.str x] ∧ x.length = 1 ∧ Q (.int (x.cps.getD 0 0 : Nat)) H
theorem c_ord {X : Cx} : CallR X (.builtin "ord") rOrd := call_ord
theorem ordS {z : Str} (h : z.length = 1) (q : Q (.int (z.cps.getD 0 0 : Nat)) H) : rOrd [V.str z] H Q := ⟨z, rfl, h, q⟩
theorem sql {H' : Hp} {a : Addr} (e : Same H H') (h : SqL K H a xs) : SqL K H' a xs := e.seq h
theorem at_ints {ns : List Int} (h0 : 0 ≤ i) (h1 : i < (ns.length : Int)) : atI (ns.map V.int) i = some (.int (ns.getD i.toNat 0)) := by
  have e : i = ((i.toNat : Nat) : Int) := (Int.toNat_of_nonneg h0).symm
  rw [e]
  refine atI_nat ?_
  have hl : i.toNat < ns.length := by omega
  rw [List.getElem?_map, List.getElem?_eq_getElem hl, Int.toNat_natCast, List.getD_eq_getElem?_getD, List.getElem?_eq_getElem hl]
  rfl
end
end WP
namespace WP
open PySem PySem.Spec PyProof.Rows L2
section
variable {X : Cx}
theorem cut {t u : TS} {D : Ends} {σ : L2.St} {H : Hp} (Mid : L2.St → Hp → Prop) (h : t { D with nx := Mid } σ H) (k : ∀ σ' H', Mid σ' H' → u D σ' H') : Evl.tCut t u D σ H := ⟨Mid, h, k⟩
end
/-! ### == of data -/
section
variable {K : PySem.W.Frag} {H : Hp} {x y : V} {d e : PyData} {Q : VK}
theorem eqD (a : Dp K H x d) (b : Dp K H y e) (h : Q (.bl (PyData.eqv d e)) H) (s1 : SeqAt.shaped d = true := by first | rfl | decide +kernel) (s2 : SeqAt.shaped e = true := by first | rfl | decide +kernel) : rEqD K x y H Q := ⟨d, e, a, b, s1, s2, h⟩
end
end WP
namespace WP
open PySem PySem.Spec PyProof.Rows L2
abbrev MG := Str → Option Value
/-- the address that a module's name holds -/
def ca (mg : MG) (nm : Str) : Addr := match mg nm with
  | some (.ref a) => a
  | _ => 0
theorem ca_of {mg : MG} {nm : Str} {a : Addr} (h : mg nm = some (.ref a)) : ca mg nm = a := by unfold ca; rw [h]
/-! ### own exceptions without an __init__ of their own -/
structure ExcAt (K : PySem.W.Frag) (C : Addr) : Prop where
  x : PySem.W.excIn K C [.type "ValueError", .type "Exception", .type "BaseException", .type "object"] "ValueError.__new__" = true
  k : PySem.W.keepIn K (.ref C) = true
  t : PySem.W.typeIn K (.ref C) = some (.type "type")
  c : ExcC K C
structure ExcOk (K : PySem.W.Frag) (mg : MG) (nm : Str) : Prop where
  m : mg nm = some (.ref (ca mg nm))
  a : ExcAt K (ca mg nm)
theorem ExcOk.mk' {K : PySem.W.Frag} {mg : MG} {nm : Str} {C : Addr} (h : mg nm = some (.ref C)) (x : ExcAt K C) : ExcOk K mg nm := by
  have e := ca_of h
  exact ⟨by rw [e]; exact h, by rw [e]; exact x⟩
theorem ExcAt.raises {X : Cx} {C : Addr} (x : ExcAt X.K C) : Raises X (.ref C) := raises_own x.c.hs x.t
theorem ExcAt.catches {K : PySem.W.Frag} {C : Addr} (x : ExcAt K C) {cls : Value} {b : Bool} (h : PySem.W.subIn K cls (.ref C) = some b) : PySem.W.exmOne K cls (.ref C) = some b := PySem.W.exm_ref x.c.hs x.c.hd x.t h
section
variable {X : Cx} {CX' : CXT} {k j : Nat} {ps : List Str} {sp : Sp} {E : L2.St → XK} {E0 : XK} {x : Str} {p pos : Pos} {e : Expr} {es : List Expr} {t : TA}
/-- what a callee lets out leaves this def too -/
theorem passX {E : XK} {E₁ : Value → Shared → Prop} (hs : X.stack = X.env :: X.outer) (hf : X.env.frame = some X.env.locals) (hex : X.ex = [])
    (hx : X.xe = fun e s' => wpAny (model X.prog X.w) X.A (leaving X.env e) (fun _ s'' => L2.CX X.prog X.w X.outer X.H_0 X.s_0 E e s'') E₁ s') : Passes (L2.CX X.prog X.w) X E :=
  fun pins σ H s e s' I c => passes_call (takes_of hs hf hex hx) (fun _ _ _ _ z => z) pins σ H s e s' I c
end
end WP
namespace WP
open PySem PySem.Spec PyProof.Rows L2
end WP
namespace WP
open PySem PySem.Spec PyProof.Rows L2
/-- a callee that raises, called where it does not -/
theorem pass0X {X : Cx} : Passes (L2.CX X.prog X.w) X (fun _ _ _ => False) := fun pins σ H s e s' I c => passes_call (W := fun _ _ _ _ => False) takes0 (fun _ _ _ _ z => z) pins σ H s e s' I c
end WP
namespace WP
open PySem PySem.Spec PyProof.Rows L2
/-- no star -/
def noStar : Expr → Bool
  | .Starred _ _ => false
  | _ => true
theorem starEach_no {e : Expr} {es : List Expr} {env : Env} (h : noStar e = true) : starEach (e :: es) env = (false, eval e env) :: starEach es env := by
  cases e with
  | Starred a b => cases h
  | _ => rfl
theorem pa_consN {X : Cx} {e : Expr} {es : List Expr} {te : TE} {t : TA} (ha : PE X e te) (hr : PA X es t) (hs : noStar e = true := by rfl) : PA X (e :: es) (tCons te t) := pa_cons ha hr (starEach_no hs)
end WP
namespace WP
open PySem PySem.Spec PyProof.Rows L2
open SX (S S_len S_cat)
section
variable {X : Cx}
theorem pe_strL {x : Str} {j pos} (l : List Nat) (h : x = S l) : PE X (.Constant (.str x) j pos) (tC (.str (S l))) := by subst h; exact pe_str
def rAddS : R2 := fun x y H Q => ∃ (a b : Str), x = .str a ∧ y = .str b ∧ a.length + b.length ≤ sizeLine ∧ Q (.str (a ++ b)) H
theorem op_addS : OpR X (binaryOp .Add) rAddS := op_add_str
def rIntS : List V → Hp → VK → Prop := fun xs H Q => ∃ (a : Str) (n : Int), xs = [.str a] ∧ PySem.intText? a = some n ∧ a.length ≤ 640 ∧ Q (.int n) H
theorem c_intS : CallR X (.type "int") rIntS := call_int_str
end
section
variable {a b l : List Nat} {i : Int} {H : Hp} {Q : VK}
theorem catS (q : Q (.str (S (a ++ b))) H) (h : a.length + b.length ≤ sizeLine := by size_fits) : rAddS (.str (S a)) (.str (S b)) H Q := ⟨_, _, rfl, rfl, by rw [S_len, S_len]; exact h, by rw [S_cat]; exact q⟩
theorem lenS' (h : l.length ≤ sizeLine) (q : Q (.int (l.length : Int)) H) {K : PySem.W.Frag} : rLen K [V.str (S l)] H Q := ⟨_, _, rfl, ⟨by rw [S_len]; exact h, rfl⟩, by rw [S_len]; exact q⟩
theorem intSd (h : l.all (fun c => decide (48 ≤ c) && decide (c ≤ 57)) = true) (hne : l ≠ []) (hl : l.length ≤ 640) (q : Q (.int ((NumText.digitsVal l : Nat) : Int)) H) : rIntS [V.str (S l)] H Q :=
  ⟨_, _, rfl, SX.int_S h hne (by omega), by rw [S_len]; exact hl, q⟩
theorem slS {lo hi : Option Int} (z : Str) (h : z.length ≤ sizeLine) (q : Q (.str (Txt.slice z lo hi)) H) : rSlS (.str z) lo hi H Q := ⟨z, rfl, h, by rw [C8.cutS_slice]; exact q⟩
theorem slTo (hi : 0 ≤ i) (h : l.length ≤ sizeLine) (q : Q (.str (S (l.take i.toNat))) H) : rSlS (.str (S l)) none (some i) H Q := slS _ (by rw [S_len]; exact h) (by rw [SX.slice_to hi]; exact q)
theorem slFrom (hi : 0 ≤ i) (h : l.length ≤ sizeLine) (q : Q (.str (S (l.drop i.toNat))) H) : rSlS (.str (S l)) (some i) none H Q := slS _ (by rw [S_len]; exact h) (by rw [SX.slice_from hi]; exact q)
theorem eqTS {a b : List Nat} (h : Q (.bl (decide (a = b))) H) : rEq (.str (S a)) (.str (S b)) H Q := ⟨rfl, by
  have e : decide ((S a : Str) = S b) = decide (a = b) := by
    by_cases h : a = b
    · subst h; rw [decide_eq_true rfl, decide_eq_true rfl]
    · rw [decide_eq_false h, decide_eq_false fun z => h (SX.S_inj z)]
  rw [dec_str, e]; exact h⟩
theorem neTS {a b : List Nat} (h : Q (.bl (!decide (a = b))) H) : rNe (.str (S a)) (.str (S b)) H Q := ⟨rfl, by
  have e : decide ((S a : Str) = S b) = decide (a = b) := by
    by_cases h : a = b
    · subst h; rw [decide_eq_true rfl, decide_eq_true rfl]
    · rw [decide_eq_false h, decide_eq_false fun z => h (SX.S_inj z)]
  rw [dec_str, e]; exact h⟩
/-- range with a step -/
theorem rng3 {ta : TA} {σ : L2.St} {R : It → Hp → Prop} (h : ta σ H fun vs H1 => ∃ (i j c : Int) (n : Nat), vs = [.int i, .int j, .int c] ∧ RgC i j c n ∧ R (Itc i c n) H1) : iRng3 ta σ H R := h
end
/-! ### the figures of a number -/
end WP
namespace WP
open PySem PySem.Spec PyProof.Rows L2
section
variable {K : PySem.W.Frag} {σ : L2.St} {H : Hp} {Q : VK} {x v : V} {p : Addr} {xs : List V}
theorem bm {T : String} {r : V → List V → Hp → VK → Prop} {to : TE} {t : TA} (h : to σ H fun x H1 => tyV K T x H1 ∧ t σ H1 fun xs H2 => r x xs H2 Q) : tBM K T r to t σ H Q := h
theorem tyS {z : Str} {A : Prop} (q : A) : tyV K "str" (.str z) H ∧ A := ⟨rfl, q⟩
theorem gsub {to ti : TE} {t : TSet} {QS : L2.St → Hp → Prop} (h : to σ H fun o H1 => ti σ H1 fun i H2 => t o i v H2 fun H3 => QS σ H3) : gSub to ti t v σ H QS := h
theorem setL {k : Int} {j : Nat} {R : Hp → Prop} (hp : H p = some (.lst xs)) (hj : ixN xs.length k = some j) (q : R (upd H p (.lst (xs.set j v)))) : rSetL (.ref p) (.int k) v H R := ⟨p, xs, k, j, rfl, rfl, hp, hj, q⟩
theorem appL (hp : H p = some (.lst xs)) (hz : xs.length < sizeLine) (q : Q .non (upd H p (.lst (xs ++ [v])))) : rAppend (.ref p) [v] H Q := ⟨p, xs, v, rfl, rfl, hp, hz, q⟩
theorem tyL {A : Prop} (hp : SqL K H p xs) (q : A) : tyV K "list" (.ref p) H ∧ A := ⟨.inl ⟨rfl, xs, hp⟩, q⟩
theorem tyT (h : SqT K H p xs) : TyX K H (.ref p) (.type "tuple") := by
  rcases h with (h | ⟨o, h⟩) | h
  · exact .base (.tup h)
  · exact .fTuple h
  · obtain ⟨o, its, n, h1, h2, h3⟩ := h
    exact .kTuple h1 h2
/-- all objects but the one at d are kept -/
def Sx (d : Addr) (H H' : Hp) : Prop := ∀ a o, a ≠ d → H a = some o → H' a = some o
theorem Sx.refl {d : Addr} {H : Hp} : Sx d H H := fun _ _ _ e => e
theorem Sx.trans {d : Addr} {H H' H2 : Hp} (h : Sx d H H') (k : Sx d H' H2) : Sx d H H2 := fun a o n e => k a o n (h a o n e)
theorem Sx.of {d : Addr} {H H' : Hp} (h : Same H H') : Sx d H H' := fun a o _ e => h a o e
theorem Sx.upd {d : Addr} {H : Hp} {o : HO} : Sx d H (upd H d o) := fun a u n e => by rw [upd_ne n]; exact e
theorem sqtX {d : Addr} {H H' : Hp} {ys : List V} (e : Sx d H H') (hd : H d = some (.lst ys)) (h : SqT K H p xs) : SqT K H' p xs := by
  rcases h with (h | ⟨o, h⟩) | h
  · exact .inl (.inl (e _ _ (fun z => by rw [z, hd] at h; cases h) h))
  · exact .inl (.inr ⟨o, e _ _ (fun z => by rw [z, hd] at h; cases h) h⟩)
  · exact .inr h
end
end WP
namespace WP
end WP
namespace WP
open PySem PySem.Spec PyProof.Rows L2
end WP
namespace WP
open PySem PySem.Spec PyProof.Rows L2
section
variable {K : PySem.W.Frag} {H H' : Hp} {a d : Addr} {xs : List V}
theorem sqlX (e : Sx d H H') (n : a ≠ d) (h : SqL K H a xs) : SqL K H' a xs := by
  rcases h with (h | ⟨o, h⟩) | h
  · exact .inl (.inl (e _ _ n h))
  · exact .inl (.inr ⟨o, e _ _ n h⟩)
  · exact .inr h
end
end WP
namespace WP
open PySem PySem.Spec PyProof.Rows L2
/-- a text that may stand in data -/
def SOk (z : Str) : Prop := (PyData.str z).canLay0 = true
theorem SOk.sh {z : Str} (h : SOk z) : SeqAt.shaped (.str z) = true := Bool.and_eq_true_iff.mpr ⟨h, rfl⟩
theorem sok_S {l : List Nat} (h : ∀ c ∈ l, c < 1114112) : SOk (SX.S l) := by
  show (SX.S l).cps.all (· < 0x110000) = true
  rw [← Array.all_toList]
  exact List.all_eq_true.mpr fun c hc => decide_eq_true (h c hc)
end WP
namespace WP
open PySem PySem.Spec PyProof.Rows L2
end WP
namespace WP
open PySem PySem.Spec PyProof.Rows L2
/-- sep.join(reversed(xs)), xs a list of texts -/
def tJoinRev (K : PySem.W.Frag) (to te : TE) : TE := fun σ H Q => to σ H fun x H1 => (∃ a, x = .str a) ∧ te σ H1 fun v H2 => ∃ (a : Str) (q : Addr) (ys : List Str),
  x = .str a ∧ v = .ref q ∧ SqL K H2 q (ys.map V.str) ∧ ((ys.map (·.length)).sum + ys.length * a.length ≤ 16777216) ∧ Q (.str (Txt.join a ys.reverse)) H2
end WP
namespace WP
open PySem PySem.Spec PyProof.Rows L2
theorem jr {K : PySem.W.Frag} {to te : TE} {σ : L2.St} {H : Hp} {Q : VK} (h : to σ H fun x H1 => (∃ a, x = .str a) ∧ te σ H1 fun v H2 => ∃ (a : Str) (q : Addr) (ys : List Str),
  x = .str a ∧ v = .ref q ∧ SqL K H2 q (ys.map V.str) ∧ ((ys.map (·.length)).sum + ys.length * a.length ≤ 16777216) ∧ Q (.str (Txt.join a ys.reverse)) H2) : tJoinRev K to te σ H Q := h
end WP
namespace WP
open PySem PySem.Spec PyProof.Rows L2
open SX (S S_len S_cat)
/-! ### tuples and dicts of the module -/
structure KTp (K : PySem.W.Frag) (mg : MG) (nm : Str) (xs : List V) : Prop where
  m : mg nm = some (.ref (ca mg nm))
  s : ∀ H, SqT K H (ca mg nm) xs
theorem KTp.mk' {K : PySem.W.Frag} {mg : MG} {nm : Str} {C : Addr} {xs : List V} (h : mg nm = some (.ref C)) (x : ∀ H, SqT K H C xs) : KTp K mg nm xs := by
  have e := ca_of h
  exact ⟨by rw [e]; exact h, by rw [e]; exact x⟩
section
variable {X : Cx}
theorem pe_ktup {x : Str} {xs : List V} {pos : Pos} (hg : Gl X x) (h : KTp X.K X.mg x xs) (hd : (x == ("__debug__" : Str)) = false := by decide) : PE X (.Name x pos) (tC (.ref (ca X.mg x))) := pe_glob hg h.m rfl hd
end
section
variable {K : PySem.W.Frag} {w : World} {σ : L2.St} {H : Hp} {Q : VK} {l : List Nat} {i : Int} {c : Nat}
theorem ixS1 (a : atI l i = some c) (hz : l.length ≤ sizeLine) (q : Q (.str (S [c])) H) : rIxS (.str (S l)) (.int i) H Q := ⟨S l, i, c, rfl, rfl, by rw [S_len]; exact hz, a, q⟩
theorem wstr {te : TE} {R : It → Hp → Prop} (h : te σ H fun v H1 => ∃ x, v = .str x ∧ R (Its x) H1) : iStr te σ H R := h
theorem inV_S {s : List Nat} : ∀ {ls : List (List Nat)}, inV (.str (S s)) (ls.map fun a => V.str (S a)) = decide (s ∈ ls)
  | [] => rfl
  | a :: ls => by
    show (eqV (.str (S a)) (.str (S s)) || inV (.str (S s)) (ls.map fun a => V.str (S a))) = _
    rw [inV_S]
    show ((S a == S s) || _) = _
    rw [SX.S_beq_eq]
    by_cases h : a = s
    · subst h; simp
    · rw [decide_eq_false h, Bool.false_or]
      congr 1
      exact propext ⟨fun z => List.mem_cons_of_mem _ z, fun z => by
        rcases List.mem_cons.mp z with z | z
        · exact absurd z.symm h
        · exact z⟩
theorem flat_S : ∀ (ls : List (List Nat)), (ls.map fun a => V.str (S a)).all flatV = true
  | [] => rfl
  | a :: ls => flat_S ls
/-- a text in a tuple, a list of texts -/
theorem inT (ls : List (List Nat)) {p : Addr} {xs : List V} {s : List Nat} (h : SqT K H p xs) (e : xs = ls.map fun a => V.str (S a)) (q : Q (.bl (decide (s ∈ ls))) H) : rIn K false (.str (S s)) (.ref p) H Q := by
  subst e
  exact ⟨p, _, rfl, .inr h, rfl, flat_S ls, by rw [inV_S]; exact q⟩
theorem inL (ls : List (List Nat)) {p : Addr} {xs : List V} {s : List Nat} (h : SqL K H p xs) (e : xs = ls.map fun a => V.str (S a)) (q : Q (.bl (decide (s ∈ ls))) H) : rIn K false (.str (S s)) (.ref p) H Q := by
  subst e
  exact ⟨p, _, rfl, .inl h, rfl, flat_S ls, by rw [inV_S]; exact q⟩
/-- a sign in a text -/
def rInSign : R2 := fun x y H Q => ∃ (c : Nat) (z : Str), x = .str ⟨#[c]⟩ ∧ y = .str z ∧ Q (.bl (decide (c ∈ z.cps.toList))) H
theorem op_inSign {X : Cx} : OpR X (compareOp .In) rInSign := op_in_sign
theorem inSign (q : Q (.bl (decide (c ∈ l))) H) : rInSign (.str (S [c])) (.str (S l)) H Q := ⟨c, S l, rfl, rfl, q⟩
end
end WP
namespace WP
open PySem PySem.Spec PyProof.Rows L2
theorem bm0 {K : PySem.W.Frag} {σ : L2.St} {H : Hp} {Q : VK} {T : String} {r : V → List V → Hp → VK → Prop} {to : TE} (h : to σ H fun x H1 => tyV K T x H1 ∧ r x [] H1 Q) : tBM0 K T r to σ H Q := h
/-- a for over the signs of a text -/
theorem for_txt {l : List Nat} {g : TG} {tb : TS} {D : Ends} {σ : L2.St} {H : Hp} (Pv : Nat → L2.St → Hp → Prop) (h0 : Pv 0 σ H)
    (hs : ∀ i c σ H, l[i]? = some c → Pv i σ H → g (.str (SX.S [c])) σ H fun σ2 H2 => tb { D with nx := Pv (i + 1), ct := Pv (i + 1), bk := D.nx } σ2 H2) (hd : ∀ σ H, Pv l.length σ H → D.nx σ H) :
    ∃ W : Nat → Nat → L2.St → Hp → Prop, (∃ m, W 0 m σ H) ∧ ∀ i m σ H, W i m σ H →
      ((Its (SX.S l)).stop i H ∧ D.nx σ H) ∨ ((Its (SX.S l)).go i H ∧ ∃ N : L2.St → Hp → Prop, (∀ σ' H', N σ' H' → ∃ m', m' < m ∧ W (i + 1) m' σ' H') ∧ ∀ x H', (Its (SX.S l)).yld i H x H' → g x σ H' fun σ2 H2 => tb { D with nx := N, ct := N, bk := D.nx } σ2 H2) := by
  have e : (SX.S l).cps.size = l.length := by simp [SX.S]
  refine for_it walk_str Pv h0 (fun _ _ _ _ _ => True.intro) (fun i x σ H H' hi p y => ?_) fun σ H p => hd σ H (by rw [← e]; exact p)
  obtain ⟨rfl, c, hc, rfl⟩ := y
  refine hs i c σ H' ?_ p
  simpa [SX.S] using hc
end WP
namespace WP
open PySem PySem.Spec PyProof.Rows L2
end WP
namespace WP
open PySem PySem.Spec PyProof.Rows L2
theorem lc {wi : TI} {g : TG} {tt : TT} {te : TE} {vs : List Nat} {σ : L2.St} {H : Hp} {Q : VK} (h : wi σ H fun J H1 => ∀ D, H1 D = none → ∃ W : Nat → Nat → Hp → Prop, (∃ m, W 0 m (upd H1 D (.lst []))) ∧ ∀ i m H, W i m H →
    (J.stop i H ∧ Q (.ref D) H) ∨ (J.go i H ∧ ∃ Nx : Hp → Prop, (∀ H', Nx H' → ∃ m', m' < m ∧ W (i + 1) m' H') ∧ ∀ x H', J.yld i H x H' → g x (wipe σ vs) H' fun σ2 H2 => wipe σ2 vs = wipe σ vs ∧ tt σ2 H2 fun b H3 =>
      if b = true then te σ2 H3 fun y H4 => ∃ acc, H4 D = some (.lst acc) ∧ acc.length < sizeLine ∧ Nx (upd H4 D (.lst (acc ++ [y]))) else Nx H3)) : tLc wi g tt te vs σ H Q := h
theorem lc_txt {l : List Nat} {g : TG} {tt : TT} {te : TE} {vs : List Nat} {σ : L2.St} {H1 : Hp} {D : Addr} {Qd : Hp → Prop} (Pv : Nat → Hp → Prop) (h0 : Pv 0 (upd H1 D (.lst [])))
    (hs : ∀ i c H, l[i]? = some c → Pv i H → g (.str (SX.S [c])) (wipe σ vs) H fun σ2 H2 => wipe σ2 vs = wipe σ vs ∧ tt σ2 H2 fun b H3 =>
      if b = true then te σ2 H3 fun y H4 => ∃ acc, H4 D = some (.lst acc) ∧ acc.length < sizeLine ∧ Pv (i + 1) (upd H4 D (.lst (acc ++ [y]))) else Pv (i + 1) H3) (hd : ∀ H, Pv l.length H → Qd H) :
    ∃ W : Nat → Nat → Hp → Prop, (∃ m, W 0 m (upd H1 D (.lst []))) ∧ ∀ i m H, W i m H →
      ((Its (SX.S l)).stop i H ∧ Qd H) ∨ ((Its (SX.S l)).go i H ∧ ∃ Nx : Hp → Prop, (∀ H', Nx H' → ∃ m', m' < m ∧ W (i + 1) m' H') ∧ ∀ x H', (Its (SX.S l)).yld i H x H' → g x (wipe σ vs) H' fun σ2 H2 => wipe σ2 vs = wipe σ vs ∧ tt σ2 H2 fun b H3 =>
        if b = true then te σ2 H3 fun y H4 => ∃ acc, H4 D = some (.lst acc) ∧ acc.length < sizeLine ∧ Nx (upd H4 D (.lst (acc ++ [y]))) else Nx H3) := by
  have e : (SX.S l).cps.size = l.length := by simp [SX.S]
  refine lc_it walk_str Pv h0 (fun _ _ _ _ => True.intro) (fun i x H H' hi p y => ?_) fun H p => hd H (by rw [← e]; exact p)
  obtain ⟨rfl, c, hc, rfl⟩ := y
  refine hs i c H' ?_ p
  simpa [SX.S] using hc
end WP
namespace WP
open PySem PySem.Spec PyProof.Rows L2
theorem dget {td ty : TE} {σ : L2.St} {H : Hp} {Q : VK} (h : td σ H fun x H1 => ty σ H1 fun y H2 => ∃ a v, x = .ref a ∧ DGet H2 a y (some v) ∧ Q v H2) : tDGet td ty σ H Q := h
end WP
namespace WP
open PySem PySem.Spec PyProof.Rows L2
end WP
namespace WP
open PySem PySem.Spec PyProof.Rows L2
def rNotInSign : R2 := fun x y H Q => ∃ (c : Nat) (z : Str), x = .str ⟨#[c]⟩ ∧ y = .str z ∧ Q (.bl (!decide (c ∈ z.cps.toList))) H
theorem op_notInSign {X : Cx} : OpR X (compareOp .NotIn) rNotInSign := op_notIn_sign
theorem notInSign {c : Nat} {l : List Nat} {H : Hp} {Q : VK} (q : Q (.bl (!decide (c ∈ l))) H) : rNotInSign (.str (SX.S [c])) (.str (SX.S l)) H Q := ⟨c, SX.S l, rfl, rfl, q⟩
end WP
namespace WP
open PySem PySem.Spec PyProof.Rows L2
theorem chain {r r' : R2} {ta tb tc : TE} {σ : L2.St} {H : Hp} {Q : VK} (h : ta σ H fun x H1 => tb σ H1 fun y H2 => r x y H2 fun z H3 => ∃ k, z = .bl k ∧ (if k = true then tc σ H3 fun w' H4 => r' y w' H4 Q else Q (.bl false) H3)) : tChain r r' ta tb tc σ H Q := h
end WP
namespace WP
open PySem PySem.Spec PyProof.Rows L2
theorem yes {σ : L2.St} {H : Hp} {t : Hp → Prop} {u : Hp → Prop} (h : t H) : tYes σ H (fun b H3 => if b = true then t H3 else u H3) := by
  show (if true = true then t H else u H)
  rw [if_pos rfl]; exact h
end WP
namespace WP
open PySem PySem.Spec PyProof.Rows L2
/-- text[i:j], both from the front -/
theorem slice_both {l : List Nat} {i j : Int} (h0 : 0 ≤ i) (h1 : i ≤ j) : Txt.slice (SX.S l) (some i) (some j) = SX.S ((l.drop i.toNat).take (j - i).toNat) := by
  have hl : ((SX.S l).length : Int) = (l.length : Int) := by rw [SX.S_len]
  by_cases hj : j ≤ (l.length : Int)
  · exact beq_iff_eq.mp (PyProof.Rows.slice_closesL (x := SX.S l) h0 h1 (by omega))
  · have e2 : Txt.slice (SX.S l) (some i) (some j) = Txt.slice (SX.S l) (some i) (some (l.length : Int)) := by
      unfold Txt.slice
      rw [SX.S_len, SX.idx_hi (by omega)]
    rw [e2]
    by_cases hi : i ≤ (l.length : Int)
    · have e := beq_iff_eq.mp (PyProof.Rows.slice_closesL (x := SX.S l) (j := (l.length : Int)) h0 hi (by omega))
      refine e.trans ?_
      show SX.S ((l.drop i.toNat).take ((l.length : Int) - i).toNat) = _
      rw [List.take_of_length_le (by rw [List.length_drop]; omega), List.take_of_length_le (by rw [List.length_drop]; omega)]
    · have e3 : Txt.slice (SX.S l) (some i) (some (l.length : Int)) = SX.S [] := by
        have hb := PyProof.Rows.slice_beyond (x := SX.S l) (i := i) (by omega)
        have hf := SX.slice_from (a := l) h0
        have e4 : Txt.slice (SX.S l) (some i) (some (l.length : Int)) = Txt.slice (SX.S l) (some i) none := by
          unfold Txt.slice
          rw [SX.S_len]
          have a1 : ¬ ((l.length : Int) < 0) := by omega
          have a2 : (1 : Int) > 0 := by decide
          simp only [Builtin.Str.strSliceIndices, a1, a2, if_false, if_true, Int.min_self, Int.max_eq_right (Int.natCast_nonneg l.length)]
        rw [e4, hf, List.drop_eq_nil_of_le (by omega)]
      rw [e3, List.drop_eq_nil_of_le (by omega), List.take_nil]
theorem slBoth {l : List Nat} {i j : Int} {H : Hp} {Q : VK} (h0 : 0 ≤ i) (h1 : i ≤ j) (h : l.length ≤ sizeLine) (q : Q (.str (SX.S ((l.drop i.toNat).take (j - i).toNat))) H) : rSlS (.str (SX.S l)) (some i) (some j) H Q := slS _ (by rw [SX.S_len]; exact h) (by rw [slice_both h0 h1]; exact q)
end WP
namespace WP
open PySem PySem.Spec PyProof.Rows L2
end WP
namespace WP
open PySem PySem.Spec PyProof.Rows L2
end WP
namespace WP
open PySem PySem.Spec PyProof.Rows L2
theorem notInT {K : PySem.W.Frag} {H : Hp} {Q : VK} (ls : List (List Nat)) {p : Addr} {xs : List V} {s : List Nat} (h : SqT K H p xs) (e : xs = ls.map fun a => V.str (SX.S a)) (q : Q (.bl (!decide (s ∈ ls))) H) : rIn K true (.str (SX.S s)) (.ref p) H Q := by
  subst e
  exact ⟨p, _, rfl, .inr h, rfl, flat_S ls, by rw [inV_S]; exact q⟩
end WP
namespace WP
open PySem PySem.Spec PyProof.Rows L2 GxR
section
variable {X : Cx} {pins : List (Addr × Obj)} {σ : L2.St} {H : Hp} {s : Shared}
/-- the generator expression's scope in the def's scope sc -/
structure GenSc (sc scope : Scope) (x : Str) : Prop where
  kind : scope.kind = .function
  co : scope.isCoroutine = false
  cell : ∀ y ∈ scope.names, y.2 ≠ .cell
  dot : scope.names.lookup (".0" : Str) = some NameKind.local
  loc : scope.names.lookup x = some .local
  free : ∀ y ∈ scope.names, y.2 = .free → sc.names.lookup y.1 = some .cell ∨ sc.names.lookup y.1 = some .free
def gscB (sc scope : Scope) (x : Str) : Bool :=
  decide (scope.kind = .function) && !scope.isCoroutine && scope.names.all (fun y => !decide (y.2 = .cell)) && decide (scope.names.lookup (".0" : Str) = some NameKind.local) && decide (scope.names.lookup x = some .local) &&
    scope.names.all (fun y => !decide (y.2 = .free) || decide (sc.names.lookup y.1 = some .cell ∨ sc.names.lookup y.1 = some .free))
theorem gsc_by {sc scope : Scope} {x : Str} (h : gscB sc scope x = true) : GenSc sc scope x := by
  unfold gscB at h
  simp only [Bool.and_eq_true, Bool.not_eq_true', decide_eq_true_eq, List.all_eq_true, Bool.or_eq_true, decide_eq_false_iff_not] at h
  obtain ⟨⟨⟨⟨⟨h1, h2⟩, h3⟩, h4⟩, h5⟩, h6⟩ := h
  exact ⟨h1, h2, h3, h4, h5, fun y hy e => (h6 y hy).elim (fun z => absurd e z) id⟩
/-- what the walked thing xv gives in the state s1: n items, the i-th one as Pf tells -/
def ItOk (X : Cx) (P : Addr) (s1 : Shared) (xv : Value) (n : Nat) (Pf : Nat → Value → Prop) : Prop :=
  ∃ fpx : List Addr, (∀ b ∈ fpx, b < s1.heap.objs.size ∧ b ≠ P) ∧ ∀ (Q : Value → Shared → Prop),
    (∀ (o : Obj) (St : Nat → Heap → Prop), (∀ A' : Around, A'.handled = none → Walks X.prog X.w A' s1.heap.objs.size (s1.heap.objs.size :: fpx) [s1.heap.objs.size] n Pf St) → St 0 (s1.heap.push o) →
      Q (.ref s1.heap.objs.size) { s1 with heap := s1.heap.push o }) → wpAny (model X.prog X.w) X.A (pyIter xv) Q X.xe s1
theorem itOk_str {P : Addr} {s1 : Shared} {a : Str} {t : Tok} : ItOk X P s1 (.str a t) a.cps.size (SignAt a) :=
  ⟨[], (fun b hb => by cases hb), fun Q h => wpAny_pyIter_str fun o St W hst => h o St W hst⟩
theorem itOk_list {P : Addr} {s1 : Shared} {q : Addr} {its : Array Value} (hl : s1.heap.IsList q its) (hP : q ≠ P) : ItOk X P s1 (.ref q) its.size (fun i v => its[i]? = some v) := by
  obtain ⟨ol, hol, _⟩ := _root_.id hl
  have hlt := Heap.lt_size hol
  refine ⟨[q], fun b hb => ?_, fun Q h => wpAny_pyIter_list hl (h _ _ (fun A' hA => Walks.list hA _ q (Nat.ne_of_lt hlt) its) ⟨⟨_, Heap.get?_push_size _ rfl, rfl, rfl⟩, hl.push _⟩)⟩
  rcases List.mem_cons.mp hb with z | z
  · rw [z]; exact ⟨hlt, hP⟩
  · cases z
/-- the element in the generator's own frame -/
def EltG (X : Cx) (P : Addr) (scope : Scope) (x : Str) (elt : Expr) (s1 : Shared) (Pf : Nat → Value → Prop) (pb : Nat → Bool) : Prop :=
  ∀ (cenv : Env) (A' : Around) (E' : Value → Shared → Prop) (i : Nat) (v : Value) (s₂ : Shared) (m₂ : Str → Option Value), cenv.scope = scope → cenv.globals = X.env.globals → cenv.cells = cloFrom X.env.cells scope.names [] → A'.handled = none → Pf i v →
    s₂.heap.Ns cenv.locals m₂ → m₂ x = some v → (∀ b u, b ≠ P → s1.heap.get? b = some u → s₂.heap.get? b = some u) →
    wpAny (model X.prog X.w) A' (eval elt cenv) (fun y s₃ => y = .bool (pb i) ∧ Keeps s₂ s₃) E' s₂
def ReadyN (X : Cx) (pins : List (Addr × Obj)) (σ : L2.St) (H1 : Hp) (P : Addr) (n : Nat) (pb : Nat → Bool) (g : Addr) (s5 : Shared) : Prop :=
  ∃ (fp wr : List Addr) (G : Array GenState → Array GenState → Prop) (F : Nat → Value → Prop) (St : Nat → Shared → Prop),
    WalksS X.prog X.w X.A.in1 g fp wr G n F St ∧ St 0 s5 ∧ TruthOf X.prog X.w X.A.in1 F pb ∧ ∀ s', Moved wr G s5 s' → ∃ H2, Tabbed P H1 H2 ∧ Inv X pins σ H2 s'
theorem gen_go {c P : Addr} {elt iter : Expr} {x : Str} {px gpos : Pos} {scope : Scope} {te : TE} {k : Nat} {Q' : Value → Shared → Prop} {R : V → Hp → Prop}
    (hr : Room k X.A) (TB : TabB X.base X.mg c P) (hcode : X.env.code = .ref c) (S : GenSc X.env.scope scope x) (hi : PE X iter te)
    (hs : ∀ v, genFold iter X.env v = pure v) (I : Inv X pins σ H s) (h : te σ H fun v H1 => TabG H1 P ∧ R v H1)
    (hw : ∀ v xv H1 s1, TabG H1 P → R v H1 → RelV v xv → Inv X pins σ H1 s1 → ∃ n Pf pb, ItOk X P s1 xv n Pf ∧ EltG X P scope x elt s1 Pf pb ∧ ∀ g s5, ReadyN X pins σ H1 P n pb g s5 → Q' (.ref g) s5) :
    wpAny (model X.prog X.w) X.A (eval (.GeneratorExp elt [⟨.Name x px, iter, [], 0⟩] scope gpos) X.env) Q' X.xe s := by
  refine wpAny_GeneratorExp_walksQ hr.hd S.co (closure_ok fun y hy e => I.ok.has y.1 (S.free y hy e)) S.cell S.dot S.loc S.kind (by have := hr.dp; omega) ?_ hs
  refine thn (hi.run pins s σ H _ I h) fun xv s1 ⟨v, H1, I1, r1, ⟨ps, hP, ht⟩, q1⟩ => ?_
  obtain ⟨n, Pf, pb, ⟨fpx, hfpx, hIt⟩, hel, hQ⟩ := hw v xv H1 s1 ⟨ps, hP, ht⟩ q1 r1 I1
  refine hIt _ fun o St W hst => ?_
  have hPs : s1.heap.get? P = some { cls := .none, data := .fields ps } := I1.hok P _ hP
  have hPlt : P < s1.heap.objs.size := Heap.lt_size hPs
  have hP2 : (s1.heap.push o).get? P = some { cls := .none, data := .fields ps } := Heap.get?_push_of_some _ hPs
  have cd : PySem.W.CodeHd (s1.heap.push o) c P := TB.code.keeps fun b u e => Heap.get?_push_of_some _ (I1.bk b u e)
  have lim2 : (s1.heap.push o).NoLimit := I1.nolimit.push o
  have cont : ∀ (code : Value) (h3 : Heap) (tk : Nat) (ps' : Array Value), Heap.ExtBut P (s1.heap.push o) h3 → (s1.heap.push o).objs.size ≤ h3.objs.size → h3.get? P = some { cls := .none, data := .fields ps' } → (∃ more, ps' = ps ++ more) → TriplesOk ps'.toList →
      wpAny (model X.prog X.w) X.A (builtinsFor X.env.globals X.env.builtins) (fun bi s₄ =>
        ∃ Ia fp wr n₀ Pf St₀ pz F, Value.ref s1.heap.objs.size = .ref Ia ∧ (∀ A' : Around, A'.handled = none → Walks X.prog X.w A' Ia fp wr n₀ Pf St₀) ∧ St₀ 0 s₄.heap ∧ (∀ b ∈ fp, b < s₄.heap.objs.size) ∧ s₄.heap.NoLimit ∧ cStatics ∉ wr ∧
          (∀ href : Heap, (∀ b o, s₄.heap.get? b = some o → href.get? b = some o) →
            QuietGen X.prog X.w (genEnv scope (cloFrom X.env.cells scope.names []) s₄.heap.objs.size code bi X.env) x [] elt (List.range s₄.heap.objs.size) wr Pf pz F href) ∧
          (∀ a h₅ tk gs, gs.bare = true → s₄.heap.objs.size < a → h₅.objs.size = a + 1 → (∀ b o, s₄.heap.get? b = some o → h₅.get? b = some o) →
            WalksS X.prog X.w X.A.in4 a (a :: s₄.heap.objs.size :: List.range s₄.heap.objs.size) (s₄.heap.objs.size :: wr) (GenOnlyQ s₄.gens.size) (passing pz n₀ 0).length
              (fun j y => ∃ i, (passing pz n₀ 0)[j]? = some i ∧ F i y) (GenAt X.prog X.w X.A.in4 a s₄.gens.size s₄.heap.objs.size (List.range s₄.heap.objs.size) wr pz n₀ F) →
            GenAt X.prog X.w X.A.in4 a s₄.gens.size s₄.heap.objs.size (List.range s₄.heap.objs.size) wr pz n₀ F 0 { s₄ with gens := s₄.gens.push gs, toks := tk, heap := h₅ } →
            Q' (.ref a) { s₄ with gens := s₄.gens.push gs, toks := tk, heap := h₅ })) X.xe { s1 with heap := h3, toks := tk } := by
    intro code h3 tk ps' hx hsz hP3 hmore ht3
    obtain ⟨bm, ob, e1, e2, e3, e4, e5, e6, e7, e8⟩ := TB.bm
    have hcP : cStatics ≠ P := fun e => by
      obtain ⟨_, hns, _⟩ := I1.nolimit
      obtain ⟨o', es, ep, ho, hd, _⟩ := hns
      rw [e, hPs] at ho
      cases ho
      cases hd
    have hcl : cStatics < s1.heap.objs.size := let ⟨_, hns, _⟩ := I1.nolimit; hns.lt
    have sz2 : (s1.heap.push o).objs.size = s1.heap.objs.size + 1 := Heap.size_push ..
    have le3 : s1.heap.objs.size ≤ h3.objs.size := Nat.le_trans (Nat.le_succ _) (by have e := sz2; rw [e] at hsz; exact hsz)
    have keep3 : ∀ b u, b ≠ P → s1.heap.get? b = some u → h3.get? b = some u := fun b u hb e => hx b u hb (Heap.get?_push_of_some _ e)
    refine wpAny_builtinsFor (m := X.mg) (by rw [I1.ok.glob]; exact ((I1.mod.glob.keeps I1.bk).push o).extBut hx TB.gP) e1 e2 (keep3 _ _ e4 (I1.bk _ _ e5)) e6 e7 e8 ?_
    refine ⟨s1.heap.objs.size, s1.heap.objs.size :: fpx, [s1.heap.objs.size], n, Pf, St, (fun _ => true), (fun i y => y = .bool (pb i)), rfl, W, ?_, ?_, lim2.extBut hx hcP, ?_, ?_, ?_⟩
    · refine (W X.A hr.hd).frame _ _ _ hst fun b hb u e => hx b u (fun z => ?_) e
      rcases List.mem_cons.mp hb with z2 | z2
      · exact Nat.ne_of_lt hPlt (z.symm.trans z2)
      · exact (hfpx b z2).2 z
    · intro b hb
      rcases List.mem_cons.mp hb with z | z
      · rw [z]
        show s1.heap.objs.size < h3.objs.size
        omega
      · exact Nat.lt_of_lt_of_le (hfpx b z).1 le3
    · intro z
      rcases List.mem_cons.mp z with z | z
      · exact Nat.ne_of_lt hcl z
      · cases z
    · intro href hhref
      refine ⟨fun A' E' i v s₂ m₂ hA hPv hn hm hk => ?_, fun A' E' i v s₂ m₂ hA hPv hp hn hm hk => ?_⟩
      · simp only [List.forIn_nil]
        exact wpAny_pure ⟨rfl, keeps_refl _⟩
      · refine hel _ A' E' i v s₂ m₂ rfl rfl rfl hA hPv hn hm fun b u hb e => ?_
        have hlt := Heap.lt_size e
        refine hk b (List.mem_range.mpr ?_) (fun z => ?_) u (hhref b u (keep3 b u hb e))
        · exact Nat.lt_of_lt_of_le hlt le3
        · rcases List.mem_cons.mp z with z | z
          · exact Nat.ne_of_lt hlt z
          · cases z
    · intro g h5 tk5 gs hgb hag hsz5 hk5 W5 hat
      simp only [GxR.passing_true, List.length_range] at W5
      refine hQ g _ ⟨_, _, _, _, _, W5.in4_1, hat, ?_, fun s' hm => ?_⟩
      · intro j y sj Qj Ej hy hQj
        obtain ⟨i, hij, rfl⟩ := hy
        obtain ⟨hj, ej⟩ := List.getElem?_eq_some_iff.mp hij
        rw [List.getElem_range] at ej
        subst ej
        exact wpAny_truthy_bool hQj
      · obtain ⟨more, em⟩ := hmore
        have nwr : ∀ b u, s1.heap.get? b = some u → b ∉ h3.objs.size :: [s1.heap.objs.size] := fun b u e hb => by
          have hl := Heap.lt_size e
          rcases List.mem_cons.mp hb with z | z
          · rw [z] at hl
            have h9 : (h3.objs.size : Nat) < s1.heap.objs.size := hl
            omega
          · rcases List.mem_cons.mp z with z | z
            · rw [z] at hl
              exact Nat.lt_irrefl _ hl
            · cases z
        have J := inv_tab (more := more) (h' := s'.heap) (g' := s'.gens) (d' := s'.drawn) (t' := s'.toks) I1 hP (fun b u hb e => hm.heap b u (nwr b u e) (hk5 b u (keep3 b u hb e)))
          (by rw [← em]; exact hm.heap P _ (nwr P _ hPs) (hk5 P _ hP3)) (AllBare.movedS (I1.bare.push hgb) hm)
        rw [sh_eta s1 s' hm.os] at J
        refine ⟨upd H1 P (.tbl (ps ++ more)), ⟨⟨ps ++ more, upd_same, by rw [← em]; exact ht3⟩, fun b hb => upd_ne hb⟩, J⟩
  refine ⟨lim2, ?_⟩
  cases hf : codeAmong gpos ps.toList with
  | none =>
    refine wpAny_genexprCodeX hcode (cd.code hP2 ht) (cd.tab hP2) hf fun c' h' tk hx hge hlt hco' _ htab' _ => ?_
    obtain ⟨o1, vs, f1, tf, fl, tg, inF, tx, tt, op, _, _, _, _, _, _, _, _, _, htr, _⟩ := hco'
    exact cont _ h' tk _ hx (Nat.le_trans hge (Nat.le_of_lt hlt)) htab'.2 ⟨_, rfl⟩ htr
  | some cv =>
    refine wpAny_genexprCode_hit hcode (cd.code hP2 ht) hf ?_
    exact cont cv (s1.heap.push o) s1.toks ps (Heap.ExtBut.refl _ _) (Nat.le_refl _) hP2 ⟨#[], by simp⟩ ht
/-- cells of the def, seen from the generator -/
theorem clo_look {cells : List (Str × Addr)} {names : List (Str × NameKind)} {y : Str} {c : Addr} (hf : (y, NameKind.free) ∈ names) (hc : cells.lookup y = some c) : (cloFrom cells names []).lookup y = some c := by
  have h := cloFrom_has (cells := cells) (acc := []) hf
  obtain ⟨c', hc'⟩ := L2.mem_lookup h
  rw [hc']
  rcases cloFrom_mem (PySem.mem_of_lookup hc') with z | ⟨_, z⟩
  · cases z
  · rw [z, hc]; rfl
def trI (pb : Int → Bool) (l : List Int) (j : Nat) : Bool := match l[j]? with
  | some b => pb b
  | none => false
theorem trI_some {pb : Int → Bool} {l : List Int} {j : Nat} {b : Int} (h : l[j]? = some b) : trI pb l j = pb b := by
  unfold trI
  rw [h]
theorem all_trI (l : List Int) (pb : Int → Bool) : (List.range l.length).all (trI pb l) = l.all pb := by
  rw [Bool.eq_iff_iff, List.all_eq_true, List.all_eq_true]
  constructor
  · intro h b hb
    obtain ⟨j, hj, e⟩ := List.getElem_of_mem hb
    have q := h j (List.mem_range.mpr hj)
    rw [trI_some (List.getElem?_eq_getElem hj), e] at q
    exact q
  · intro h j hj
    have hj' := List.mem_range.mp hj
    rw [trI_some (List.getElem?_eq_getElem hj')]
    exact h _ (List.getElem_mem hj')
/-- x in y, y a captured text -/
theorem elt_in {P : Addr} {scope : Scope} {x y : Str} {p1 p2 p3 : Pos} {H1 : Hp} {s1 : Shared} {a z : Str} {i : Nat} (I1 : Inv X pins σ H1 s1) (hP : ∃ ps : Array Value, H1 P = some (.tbl ps))
    (hN : X.N[i]? = some y) (hv : σ[i]? = some (some (.str z))) (hk : X.env.scope.names.lookup y = some .cell) (hfr : (y, NameKind.free) ∈ scope.names) (hl : scope.names.lookup x = some .local) (hy : scope.names.lookup y = some .free) (hkd : scope.kind = .function)
    (hd : (x == ("__debug__" : Str)) = false := by decide) (hd2 : (y == ("__debug__" : Str)) = false := by decide) (hcd : (y == ("__classdict__" : Str)) = false := by decide) (hm : behindInMarks .In (.Name y p2) = false := by with_unfolding_all rfl) :
    EltG X P scope x (.Compare (.Name x p1) [.In] [.Name y p2] p3) s1 (SignAt a) (trF (fun c => decide (c ∈ z.cps.toList)) a.cps.toList) := by
  intro cenv A' E' j v s₂ m₂ e1 e2 e3 hA hPf hn hmx hkp
  obtain ⟨c, t, hc, rfl⟩ := hPf
  obtain ⟨m, hns, hloc⟩ := I1.loc
  obtain ⟨u, ru, lk⟩ := hloc i y _ hN hv (.inr (.inl hk))
  obtain ⟨t', rfl⟩ := _root_.id ru
  have hkk : X.env.kindOf y = some .cell := hk
  rcases lk with ⟨hk', _⟩ | ⟨_, cl, hcl, ⟨oc, hoc, hcd2⟩⟩
  · rw [hkk] at hk'; cases hk'
  have hcP : cl ≠ P := fun e => by
    obtain ⟨ps, hps⟩ := hP
    have q := I1.hok P _ hps
    have q' : s1.heap.get? P = some { cls := .none, data := .fields ps } := q
    rw [e, q'] at hoc
    cases hoc
    cases hcd2
  have ec : cenv.cells.lookup y = some cl := by rw [e3]; exact clo_look hfr hcl
  have hcell : s₂.heap.IsCell cl (some (.str z t')) := ⟨oc, hkp cl oc hcP hoc, hcd2⟩
  refine wpAny_Compare1 ?_ hm
  refine wpAny_Name (wpAny_loadName_local (by rw [e1]; exact hkd) (show cenv.scope.names.lookup x = some .local by rw [e1]; exact hl) hn hmx ?_) hd
  refine wpAny_Name (wpAny_loadName_free (by rw [e1]; exact hkd) (show cenv.scope.names.lookup y = some .free by rw [e1]; exact hy) ec hcell ?_ hcd) hd2
  refine PyProof.Rows.in_str ⟨?_, keeps_refl _⟩
  rw [trF_some (by rw [Array.getElem?_toList]; exact hc)]
  exact congrArg Value.bool (PySem.StrLaws.found_one z c)
/-- lo <= x <= hi and x != no, the three names of the module -/
theorem elt_rng {P : Addr} {scope : Scope} {x lo hi no : Str} {p1 p2 p3 p4 p5 p6 p7 p8 : Pos} {H1 : Hp} {s1 : Shared} {its : Array Value} {ns : List Int} {l h n : Int} {t1 t2 t3 : Tok} (I1 : Inv X pins σ H1 s1) (hP : ∃ ps : Array Value, H1 P = some (.tbl ps))
    (g1 : X.mg lo = some (.int l t1)) (g2 : X.mg hi = some (.int h t2)) (g3 : X.mg no = some (.int n t3)) (hv : Vals (ns.map V.int) its.toList)
    (hl : scope.names.lookup x = some .local) (k1 : scope.names.lookup lo = some .globalImplicit) (k2 : scope.names.lookup hi = some .globalImplicit) (k3 : scope.names.lookup no = some .globalImplicit) (hkd : scope.kind = .function)
    (d0 : (x == ("__debug__" : Str)) = false := by decide) (d1 : (lo == ("__debug__" : Str)) = false := by decide) (d2 : (hi == ("__debug__" : Str)) = false := by decide) (d3 : (no == ("__debug__" : Str)) = false := by decide) :
    EltG X P scope x (.BoolOp .And [.Compare (.Name lo p1) [.LtE, .LtE] [.Name x p2, .Name hi p3] p4, .Compare (.Name x p5) [.NotEq] [.Name no p6] p7] p8) s1 (fun i v => its[i]? = some v)
      (trI (fun c => decide (l ≤ c ∧ c ≤ h ∧ c ≠ n)) ns) := by
  intro cenv A' E' j v s₂ m₂ e1 e2 e3 hA hPf hn hmx hkp
  have hj : ∃ (c : Int) (tc : Tok), ns[j]? = some c ∧ v = .int c tc := by
    have hlen := hv.length
    obtain ⟨hjl, _⟩ := Array.getElem?_eq_some_iff.mp hPf
    have hj2 : j < ns.length := by simp only [List.length_map, Array.length_toList] at hlen; exact Nat.lt_of_lt_of_eq hjl hlen.symm
    obtain ⟨u, hu, ru⟩ := hv.get (i := j) (x := .int ns[j]) (by rw [List.getElem?_map, List.getElem?_eq_getElem hj2]; rfl)
    rw [Array.getElem?_toList, hPf] at hu
    cases hu
    obtain ⟨tc, rfl⟩ := ru
    exact ⟨_, tc, List.getElem?_eq_getElem hj2, rfl⟩
  obtain ⟨c, tc, hc, rfl⟩ := hj
  have kd : cenv.scope.kind = .function := by rw [e1]; exact hkd
  have gns : s₂.heap.Ns cenv.globals X.mg := by
    rw [e2, I1.ok.glob]
    obtain ⟨o, es, ep, ho, hd, r⟩ := I1.mod.glob.keeps I1.bk
    refine ⟨o, es, ep, hkp _ _ (fun e => ?_) ho, hd, r⟩
    obtain ⟨ps, hps⟩ := hP
    have q' : s1.heap.get? P = some { cls := .none, data := .fields ps } := I1.hok P _ hps
    rw [e, q'] at ho
    cases ho
    cases hd
  have ldx : ∀ {Q : Value → Shared → Prop} {pp : Pos}, Q (.int c tc) s₂ → wpAny (model X.prog X.w) A' (eval (.Name x pp) cenv) Q E' s₂ := fun q =>
    wpAny_Name (wpAny_loadName_local kd (show cenv.scope.names.lookup x = some .local by rw [e1]; exact hl) hn hmx q) d0
  have ldg : ∀ {y : Str} {val : Value} {Q : Value → Shared → Prop} {pp : Pos}, X.mg y = some val → scope.names.lookup y = some .globalImplicit → (y == ("__debug__" : Str)) = false → Q val s₂ → wpAny (model X.prog X.w) A' (eval (.Name y pp) cenv) Q E' s₂ := fun g k d q =>
    Calls.Name_function_global kd (show cenv.scope.names.lookup _ = some .globalImplicit by rw [e1]; exact k) (Calls.loadGlobal_global gns g q) d
  rw [trI_some hc]
  refine wpAny_And2 ?_
  refine Compare_chain (ldg g1 k1 d1 (chain_link (ldx (le_int ?_))))
  refine wpAny_truthy_bool ?_
  by_cases h1 : l ≤ c
  · rw [decide_eq_true h1]
    refine ite_tt (chain_last (ldg g2 k2 d2 (le_int ?_)))
    refine wpAny_truthy_bool ?_
    by_cases h2 : c ≤ h
    · rw [decide_eq_true h2]
      refine ite_tt (wpAny_Compare1 (ldx (ldg g3 k3 d3 (ne_int ?_))))
      refine ⟨?_, keeps_refl _⟩
      by_cases h3 : c = n
      · simp [h3]
      · simp [h1, h2, h3]
    · rw [decide_eq_false h2]
      exact ite_ff ⟨by simp [h2], keeps_refl _⟩
  · rw [decide_eq_false h1]
    refine ite_ff ?_
    refine wpAny_truthy_bool (ite_ff ⟨by simp [h1], keeps_refl _⟩)
/-- all(.. for x in e): the walked thing of the kind R, the answer b -/
theorem all_go {c P : Addr} {elt iter : Expr} {x : Str} {px p pos gpos : Pos} {scope : Scope} {te : TE} {Wf : V → Hp → L2.St → VK → Prop} {k : Nat}
    (hr : Room k X.A) (hg : Gl X "all") (hm : X.mg "all" = none) (hb : bootBuiltins "all" = some (.builtin "all")) (TB : TabB X.base X.mg c P) (hcode : X.env.code = .ref c) (S : GenSc X.env.scope scope x) (hi : PE X iter te)
    (hs : ∀ v, genFold iter X.env v = pure v)
    (he : starEach [.GeneratorExp elt [⟨.Name x px, iter, [], 0⟩] scope gpos] X.env = (false, eval (.GeneratorExp elt [⟨.Name x px, iter, [], 0⟩] scope gpos) X.env) :: starEach [] X.env)
    (hw : ∀ pins (σ : L2.St) (v : V) (xv : Value) (H1 : Hp) (s1 : Shared) (Q : VK), TabG H1 P → Wf v H1 σ Q → RelV v xv → Inv X pins σ H1 s1 → ∃ n Pf pb, ItOk X P s1 xv n Pf ∧ EltG X P scope x elt s1 Pf pb ∧ ∀ H2, Tabbed P H1 H2 → Q (.bl ((List.range n).all pb)) H2) :
    PE X (.Call (.Name "all" p) [.GeneratorExp elt [⟨.Name x px, iter, [], 0⟩] scope gpos] [] pos) (fun σ H Q => te σ H fun v H1 => TabG H1 P ∧ Wf v H1 σ Q) := by
  refine ⟨fun pins s σ H Q I h => ?_⟩
  refine wpAny_Call_Name_kw (ld_blt I hg hm hb ?_)
  refine PyProof.Rows.callWith_builtin1 ?_ he (by rfl)
  rw [he]
  show wpAny _ _ (spliced ((false, eval (.GeneratorExp elt [⟨.Name x px, iter, [], 0⟩] scope gpos) X.env) :: backTo pos (starEach [] X.env))) _ _ s
  refine Calls.spliced_cons (gen_go (R := fun v H1 => Wf v H1 σ Q) hr TB hcode S hi hs I h fun v xv H1 s1 hT q1 r1 I1 => ?_)
  obtain ⟨n, Pf, pb, h1, h2, h3⟩ := hw pins σ v xv H1 s1 Q hT q1 r1 I1
  refine ⟨n, Pf, pb, h1, h2, fun g s5 hG => ?_⟩
  obtain ⟨fp, wr, G, F, St, W, hst, htr, hI⟩ := hG
  refine Calls.spliced_nil ?_
  refine call_all_walkS (W.self 0 _ _ _ hst ⟨g, fp, wr, G, _, F, St, _, rfl, W, hst, htr, fun s' hmv => ?_⟩)
  obtain ⟨H2, hT, J⟩ := hI s' hmv
  exact ⟨.bl _, H2, J, rfl, h3 H2 hT⟩
/-- all(x in y for x in e), e and y texts; y the def's i-th name -/
def tAllC (P : Addr) (i : Nat) (te : TE) : TE := fun σ H Q => te σ H fun v H1 => TabG H1 P ∧ ∃ a z : Str, v = .str a ∧ σ[i]? = some (some (.str z)) ∧ ∀ H2, Tabbed P H1 H2 → Q (.bl (a.cps.toList.all fun c => decide (c ∈ z.cps.toList))) H2
theorem pe_allC {c P : Addr} {iter : Expr} {x y : Str} {px p pos gpos p1 p2 p3 : Pos} {scope : Scope} {te : TE} {k i : Nat}
    (hr : Room k X.A) (hg : Gl X "all") (hm : X.mg "all" = none) (hb : bootBuiltins "all" = some (.builtin "all")) (TB : TabB X.base X.mg c P) (hcode : X.env.code = .ref c) (S : GenSc X.env.scope scope x) (hi : PE X iter te)
    (hN : X.N[i]? = some y) (hk : X.env.scope.names.lookup y = some .cell) (hfr : (y, NameKind.free) ∈ scope.names) (hy : scope.names.lookup y = some .free)
    (hs : ∀ v, genFold iter X.env v = pure v)
    (he : starEach [.GeneratorExp (.Compare (.Name x p1) [.In] [.Name y p2] p3) [⟨.Name x px, iter, [], 0⟩] scope gpos] X.env = (false, eval (.GeneratorExp (.Compare (.Name x p1) [.In] [.Name y p2] p3) [⟨.Name x px, iter, [], 0⟩] scope gpos) X.env) :: starEach [] X.env := by rfl)
    (hd : (x == ("__debug__" : Str)) = false := by decide) (hd2 : (y == ("__debug__" : Str)) = false := by decide) (hcd : (y == ("__classdict__" : Str)) = false := by decide) (hmk : behindInMarks .In (Expr.Name y p2) = false := by with_unfolding_all rfl) :
    PE X (.Call (.Name "all" p) [.GeneratorExp (.Compare (.Name x p1) [.In] [.Name y p2] p3) [⟨.Name x px, iter, [], 0⟩] scope gpos] [] pos) (tAllC P i te) := by
  refine all_go (Wf := fun v H1 σ Q => ∃ a z : Str, v = .str a ∧ σ[i]? = some (some (.str z)) ∧ ∀ H2, Tabbed P H1 H2 → Q (.bl (a.cps.toList.all fun c => decide (c ∈ z.cps.toList))) H2) hr hg hm hb TB hcode S hi hs he fun pins σ v xv H1 s1 Q hT h r1 I1 => ?_
  obtain ⟨a, z, rfl, hv, hQ⟩ := h
  obtain ⟨t, rfl⟩ := _root_.id r1
  obtain ⟨ps, hP, _⟩ := hT
  refine ⟨_, _, _, itOk_str, elt_in I1 ⟨ps, hP⟩ hN hv hk hfr S.loc hy S.kind hd hd2 hcd hmk, fun H2 h2 => ?_⟩
  rw [all_signs]
  exact hQ H2 h2
/-- all(lo <= x <= hi and x != no for x in e), e a list of ints -/
def tAllR (K : PySem.W.Frag) (P : Addr) (l h n : Int) (te : TE) : TE := fun σ H Q => te σ H fun v H1 => TabG H1 P ∧ ∃ (q : Addr) (ns : List Int), v = .ref q ∧ SqL K H1 q (ns.map V.int) ∧ ∀ H2, Tabbed P H1 H2 → Q (.bl (ns.all fun c => decide (l ≤ c ∧ c ≤ h ∧ c ≠ n))) H2
theorem pe_allR {c P : Addr} {iter : Expr} {x lo hi no : Str} {px p pos gpos p1 p2 p3 p4 p5 p6 p7 p8 : Pos} {scope : Scope} {te : TE} {k : Nat} {l h n : Int}
    (hr : Room k X.A) (hg : Gl X "all") (hm : X.mg "all" = none) (hb : bootBuiltins "all" = some (.builtin "all")) (TB : TabB X.base X.mg c P) (hcode : X.env.code = .ref c) (S : GenSc X.env.scope scope x) (hi' : PE X iter te)
    (g1 : ∃ u, X.mg lo = some u ∧ RelV (.int l) u) (g2 : ∃ u, X.mg hi = some u ∧ RelV (.int h) u) (g3 : ∃ u, X.mg no = some u ∧ RelV (.int n) u)
    (k1 : scope.names.lookup lo = some .globalImplicit) (k2 : scope.names.lookup hi = some .globalImplicit) (k3 : scope.names.lookup no = some .globalImplicit)
    (hs : ∀ v, genFold iter X.env v = pure v)
    (he : starEach [.GeneratorExp (.BoolOp .And [.Compare (.Name lo p1) [.LtE, .LtE] [.Name x p2, .Name hi p3] p4, .Compare (.Name x p5) [.NotEq] [.Name no p6] p7] p8) [⟨.Name x px, iter, [], 0⟩] scope gpos] X.env = (false, eval (.GeneratorExp (.BoolOp .And [.Compare (.Name lo p1) [.LtE, .LtE] [.Name x p2, .Name hi p3] p4, .Compare (.Name x p5) [.NotEq] [.Name no p6] p7] p8) [⟨.Name x px, iter, [], 0⟩] scope gpos) X.env) :: starEach [] X.env := by rfl)
    (d0 : (x == ("__debug__" : Str)) = false := by decide) (d1 : (lo == ("__debug__" : Str)) = false := by decide) (d2 : (hi == ("__debug__" : Str)) = false := by decide) (d3 : (no == ("__debug__" : Str)) = false := by decide) :
    PE X (.Call (.Name "all" p) [.GeneratorExp (.BoolOp .And [.Compare (.Name lo p1) [.LtE, .LtE] [.Name x p2, .Name hi p3] p4, .Compare (.Name x p5) [.NotEq] [.Name no p6] p7] p8) [⟨.Name x px, iter, [], 0⟩] scope gpos] [] pos) (tAllR X.K P l h n te) := by
  obtain ⟨u1, g1, t1, rfl⟩ := g1
  obtain ⟨u2, g2, t2, rfl⟩ := g2
  obtain ⟨u3, g3, t3, rfl⟩ := g3
  refine all_go (Wf := fun v H1 σ Q => ∃ (q : Addr) (ns : List Int), v = .ref q ∧ SqL X.K H1 q (ns.map V.int) ∧ ∀ H2, Tabbed P H1 H2 → Q (.bl (ns.all fun c => decide (l ≤ c ∧ c ≤ h ∧ c ≠ n))) H2) hr hg hm hb TB hcode S hi' hs he fun pins σ v xv H1 s1 Q hT hq r1 I1 => ?_
  obtain ⟨q, ns, rfl, hq, hQ⟩ := hq
  obtain rfl : xv = Value.ref q := r1
  obtain ⟨its, rv, pl, hsz⟩ := I1.list hq
  obtain ⟨ps, hP, _⟩ := hT
  have hqP : q ≠ P := fun e => by
    have q' : s1.heap.get? P = some { cls := .none, data := .fields ps } := I1.hok P _ hP
    obtain ⟨o, nn, e1, _, _, e2⟩ := pl
    rw [e, q'] at e1
    cases e1
    cases e2
  refine ⟨_, _, _, itOk_list pl.isList hqP, elt_rng I1 ⟨ps, hP⟩ g1 g2 g3 (by simpa using rv) S.loc k1 k2 k3 S.kind d0 d1 d2 d3, fun H2 h2 => ?_⟩
  have e := rv.length
  rw [List.length_map] at e
  rw [List.size_toArray, ← e, all_trI]
  exact hQ H2 h2
end
end WP
namespace WP
open PySem PySem.Spec PyProof.Rows L2 GxR
/-- all but the tables stay, tables stay tables -/
def NT (u : HO) : Prop := ∀ ps, u ≠ .tbl ps
structure Sm (H H' : Hp) : Prop where
  k : ∀ b u, H b = some u → NT u → H' b = some u
  t : ∀ P, TabG H P → TabG H' P
theorem Sm.refl (H : Hp) : Sm H H := ⟨fun _ _ e _ => e, fun _ h => h⟩
theorem Sm.trans {H H' H2 : Hp} (a : Sm H H') (b : Sm H' H2) : Sm H H2 := ⟨fun x u e n => b.k x u (a.k x u e n) n, fun P h => b.t P (a.t P h)⟩
theorem Sm.of {H H' : Hp} (e : Same H H') : Sm H H' := ⟨fun b u h _ => e b u h, fun P ⟨ps, h, t⟩ => ⟨ps, e P _ h, t⟩⟩
theorem Sm.tab {H H' : Hp} {P : Addr} (g : TabG H P) (h : Tabbed P H H') : Sm H H' := by
  obtain ⟨ps, hP, ht⟩ := g
  refine ⟨fun b u e n => ?_, fun Q hq => ?_⟩
  · by_cases hb : b = P
    · rw [hb, hP] at e; exact absurd (Option.some.inj e).symm (n ps)
    · rw [h.2 b hb]; exact e
  · by_cases hb : Q = P
    · rw [hb]; exact h.1
    · obtain ⟨qs, h1, h2⟩ := hq
      exact ⟨qs, by rw [h.2 Q hb]; exact h1, h2⟩
theorem nt_tup {xs : List V} : NT (.tup xs) := fun _ z => by cases z
theorem nt_lst {xs : List V} : NT (.lst xs) := fun _ z => by cases z
theorem nt_frz {o : Obj} {x : HO} : NT (.frz o x) := fun _ z => by cases z
theorem Sm.tup {K : PySem.W.Frag} {H H' : Hp} {a : Addr} {xs : List V} (e : Sm H H') (h : SqT K H a xs) : SqT K H' a xs := by
  rcases h with (h | ⟨o, h⟩) | h
  · exact .inl (.inl (e.k _ _ h nt_tup))
  · exact .inl (.inr ⟨o, e.k _ _ h nt_frz⟩)
  · exact .inr h
theorem Sm.lst {K : PySem.W.Frag} {H H' : Hp} {a : Addr} {xs : List V} (e : Sm H H') (h : SqL K H a xs) : SqL K H' a xs := by
  rcases h with (h | ⟨o, h⟩) | h
  · exact .inl (.inl (e.k _ _ h nt_lst))
  · exact .inl (.inr ⟨o, e.k _ _ h nt_frz⟩)
  · exact .inr h
/-- what comes back, tables grown -/
def MetV (v : V) (H : Hp) (Q : VK) : Prop := ∀ H', Sm H H' → Q v H'
def MetT (xs : List V) (H : Hp) (Q : VK) : Prop := ∀ p H', Sm H H' → H' p = some (.tup xs) → Q (.ref p) H'
theorem MetT.new {xs : List V} {H H' : Hp} {Q : VK} (k : MetT xs H Q) (e : Sm H H') : ∀ p, H' p = none → Q (.ref p) (upd H' p (.tup xs)) := fun p hp =>
  k p _ (e.trans (.of (same_new hp))) upd_same
/-- the def x's code object and its table -/
def cod (K : PySem.W.Frag) (x : Str) : Addr := match PySem.W.tabIn K x with
  | some (c, _) => c
  | none => 0
def tbl (K : PySem.W.Frag) (x : Str) : Addr := match PySem.W.tabIn K x with
  | some (_, P) => P
  | none => 0
theorem cod_of {K : PySem.W.Frag} {x : Str} {c P : Addr} (h : PySem.W.tabIn K x = some (c, P)) : cod K x = c := by unfold cod; rw [h]
theorem tbl_of {K : PySem.W.Frag} {x : Str} {c P : Addr} (h : PySem.W.tabIn K x = some (c, P)) : tbl K x = P := by unfold tbl; rw [h]
/-- a def whose code object is c -/
structure FunC (K : PySem.W.Frag) (x qual : Str) (st : Stmt) (f : Addr) (fd : FuncData) (c : Addr) : Prop where
  ex : ∃ (oc : Value) (od : Option Addr) (kV doc pm : Value) (an : Option Addr) (ct : Value) (osl : Array (Option Value)),
    fd = PySem.W.fnOf x qual (defArgs st) (defBody st) (defScope st) .none kV doc pm an (.ref c) ct ∧ K.lookup f = some ⟨oc, od, .func fd, osl⟩ ∧ PySem.W.codeIn K (.ref c) qual = true
section
variable {P : Program} {w : World} {K : PySem.W.Frag} {mg : Str → Option Value} {base : Heap}
theorem FunC.ok {x qual : Str} {st : Stmt} {f : Addr} {fd : FuncData} {c : Addr} {N ps : List Str} {k : Nat} {sp : Sp} (F : FunC K x qual st f fd c) (S : FnScope N ps (defScope st)) (len : ∀ vs H Q E, sp vs H Q E → vs.length = ps.length)
    (hbody : ∀ (A : Around) (outer : List Env) (s : Shared) (H : Hp) (vs : List V) (Q : VK) (E : XK), Room k (A.deeper (envOfC qual (defScope st) s.heap.objs.size f (.ref c))) → sp vs H Q E →
      ∃ t, PSs (cxOf CX0 P w K mg base N qual (defScope st) f (.ref c) A outer s H E).nox (defBody st) t ∧ t { nx := fun _ H' => Q .non H', rt := Q } (start N vs) H) : FnOk P w K mg base CX0 (k + 1) f fd ps sp := by
  obtain ⟨oc, od, kV, doc, pm, an, ct, osl, rfl, lk, hcd⟩ := F.ex
  refine fn_of lk hcd S len fun A outer s H vs Q E hr hsp => ?_
  obtain ⟨t, h, q⟩ := hbody A outer s H vs Q E hr hsp
  exact ⟨t, h.nox, q⟩
theorem funC_mk {x qual : Str} {st : Stmt} {f : Addr} {c P' : Addr} {y : Str} {oc : Value} {od an : Option Addr} {osl : Array (Option Value)} {kV doc pm ct : Value} (l : K.lookup f = some ⟨oc, od, .func (PySem.W.fnOf x qual (defArgs st) (defBody st) (defScope st) .none kV doc pm an (.ref c) ct), osl⟩)
    (hc : PySem.W.codeIn K (.ref c) qual = true) (ht : PySem.W.tabIn K y = some (c, P')) : FunC K x qual st f (PySem.W.fnOf x qual (defArgs st) (defBody st) (defScope st) .none kV doc pm an (.ref c) ct) (cod K y) := by
  rw [cod_of ht]
  exact ⟨oc, od, kV, doc, pm, an, ct, osl, rfl, l, hc⟩
end
theorem tabB_of {base : Heap} {mg : Str → Option Value} {K : PySem.W.Frag} {x : Str} {c P : Addr} (h : LamX.TabB base mg c P) (ht : PySem.W.tabIn K x = some (c, P)) : GxR.TabB base mg (cod K x) (tbl K x) := by
  rw [cod_of ht, tbl_of ht]
  exact ⟨h.code, h.bm, h.gP⟩
/-- the end of a row whose defs hold generator expressions -/
theorem walk_ofG {l : PySem.W.OpenLaw} {n k : Nat} {q : Program} {loose : List Str} {XP : (Str → Option Value) → Heap → Prop} {YP : World → Heap → Prop} {d : DefRec} {K : Params → PySem.W.Frag} {CX : World → CXT} {x : Str}
    (hn : l.most = some n) (hn2 : n ≤ sizeLine) (hdf : d.params.defaults = []) (hr : Room k callerA) (hY : ∀ (w : World) (h : Heap), YP w h → (K w.params).In h)
    (F : ∀ (w : World) (mg : Str → Option Value) (fa : Addr) (h : Heap), YP w h → (K w.params).In h → h.Ns mainGlobals mg → mg d.name = some (.ref fa) →
      (∀ (x : Str) (c P : Addr), ((recsOf q).any fun e => e.name == x) = true → PySem.W.tabIn (K w.params) x = some (c, P) → PySem.W.CodeHd h c P ∧ h.get? P = some { cls := .none, data := .fields #[] }) → LamX.LawAtS l w (K w.params) (CX w) k n x mg fa h)
    (hCX : ∀ (w : World) (H : Hp) (s : Shared) (e : Value) (s' : Shared), CX w [] H s (fun _ _ _ => False) e s' → False) :
    PySem.W.WalkO q loose XP YP l.row.toRowW d [] (fun f vs => PySem.call f vs) := by
  refine Att.attach_callB hn hdf fun w s₀ s₁ mg mb fa o pm cd doc a vs ns G Y ho hd hcd hmg hobj hints hlen hbits hg => ?_
  have KX := hY w _ Y
  obtain ⟨fd, cs, sp, hT, nT, C, hb, hsp, hF⟩ := F w mg fa _ Y KX G.T.g hmg fun x c P hrec ht => by
    obtain ⟨dL, hf⟩ : ∃ dL, (recsOf q).find? (fun e => e.name == x) = some dL := by
      cases e : (recsOf q).find? (fun e => e.name == x) with
      | some dL => exact ⟨dL, rfl⟩
      | none =>
        rw [List.find?_eq_none] at e
        obtain ⟨z, hz, h2⟩ := List.any_eq_true.mp hrec
        exact absurd h2 (e z hz)
    exact PySem.W.tab_of G.T KX hf ht
  exact LamX.law_callTs KX G.T.g G.T.b G.T.builtins G.T.nolimit hg hT nT C G.T.bmain hobj hints (Nat.le_trans hlen hn2) hr hF hb (fun H hH hS => hsp H a ns hlen hbits hH hS) fun H e s' => hCX w H s₁ e s'
end WP
namespace WT
open PySem PySem.Spec PyProof.Rows L2 CwR
/-! ### with a token out: tests, ifs, loops, defs -/
def PTT (X : Cx) (e : Expr) (t : TT) : Prop :=
  ∀ (pins : List (Addr × Obj)) (s : Shared) (σ : L2.St) (H : Hp) (Q : Bool → Hp → Prop), 1 ≤ s.toks → Inv X pins σ H s → t σ H Q → wpAny (model X.prog X.w) X.A (isTrue e X.env (eval e X.env)) (TP X pins σ Q) X.xe s
def PWT (X : Cx) (e : Expr) (t : TT) : Prop :=
  ∀ (whole : Sem Value) (pins : List (Addr × Obj)) (s : Shared) (σ : L2.St) (H : Hp) (Q : Bool → Hp → Prop), 1 ≤ s.toks → Inv X pins σ H s → t σ H Q → wpAny (model X.prog X.w) X.A (isTrue e X.env whole) (TP X pins σ Q) X.xe s
section
variable {X : Cx} {st : Stmt} {rest : List Stmt} {t u : TS} {a b c e f : Expr} {te tf ta tb : TE} {tA tB tc : TT} {pos p : Pos}
theorem PTT.of (h : PT X e tA) : PTT X e tA := fun pins s σ H Q _ I q => h.run pins s σ H Q I q
theorem PWT.of (h : PW X e tA) : PWT X e tA := fun wh pins s σ H Q _ I q => h.run wh pins s σ H Q I q
theorem PWT.pt (h : PWT X e tA) : PTT X e tA := h _
end
/-! ### the same as structures (so that they are not unfolded) -/
structure ET (X : Cx) (e : Expr) (t : TE) : Prop where
  run : PET X e t
structure TT1 (X : Cx) (e : Expr) (t : TT) : Prop where
  run : PTT X e t
structure TW (X : Cx) (e : Expr) (t : TT) : Prop where
  run : PWT X e t
structure ST (X : Cx) (st : Stmt) (t : TS) : Prop where
  run : PST X st t
structure SsT (X : Cx) (st : List Stmt) (t : TS) : Prop where
  run : PSsT X st t
section
variable {X : Cx} {st : Stmt} {rest : List Stmt} {t u : TS} {a b c e f : Expr} {te tf ta tb : TE} {tA tB tc : TT} {pos p apos c0 c1 : Pos} {y z : Str} {j k : Nat} {o : Expr} {to : TE}
theorem ET.of (h : PE X e te) : ET X e te := ⟨PET.of h⟩
theorem TT1.of (h : PT X e tA) : TT1 X e tA := ⟨PTT.of h⟩
theorem TW.of (h : PW X e tA) : TW X e tA := ⟨PWT.of h⟩
theorem TW.pt (h : TW X e tA) : TT1 X e tA := ⟨h.run.pt⟩
theorem ST.of (h : PS X st t) : ST X st t := ⟨PST.of h⟩
theorem SsT.of (h : PSs X rest t) : SsT X rest t := ⟨PSsT.of h⟩
end
end WT
namespace WR
open PySem PySem.Spec PyProof.Rows L2 CwR
/-- two texts of the module: their marks are known -/
structure Rp (mg : Str → Option Value) (x1 x2 y z : Str) : Prop where
  ex : ∃ t u : Tok, mg x1 = some (.str y t) ∧ mg x2 = some (.str z u) ∧ (t ≠ 0 ∧ u ≠ 0 ∧ t ≠ u) ∧ (y == z) = false
section
variable {X : Cx} {ob : Expr} {tob : TE} {x1 x2 y z : Str} {c0 c1 ap ps : Pos}
theorem pe_replK (ho : PE X ob tob) (g1 : Gl X x1) (g2 : Gl X x2) (R : Rp X.mg x1 x2 y z) (d1 : (x1 == ("__debug__" : Str)) = false := by decide) (d2 : (x2 == ("__debug__" : Str)) = false := by decide)
    (st : starEach [.Name x1 c0, .Name x2 c1] X.env = [(false, eval (.Name x1 c0) X.env), (false, eval (.Name x2 c1) X.env)] := by rfl)
    (ln : (ap.endLine == ps.line) = true := by rfl) (ab : attributeBase ob "replace" X.env (eval ob X.env) = eval ob X.env := by rfl) :
    PE X (.Call (.Attribute ob "replace" ap) [.Name x1 c0, .Name x2 c1] [] ps) (tReplC tob y z) := by
  obtain ⟨t, u, m1, m2, ⟨nt, nu, ntu⟩, nyz⟩ := R.ex
  constructor
  intro pins s σ H Q I h
  apply PySem.Call_method2 ab st ln
  refine thn (ho.run pins s σ H _ I h) fun v s1 q => ?_
  obtain ⟨w, H1, J, rw1, x, ex, le, k⟩ := q
  subst ex
  obtain ⟨tx, ev⟩ := rw1
  subst ev
  have run : ∀ {E : Value → Shared → Prop}, wpAny (model X.prog X.w) X.A (call (.builtin "str.replace") [.str x tx, .str y t, .str z u]) (EP X pins σ Q) E s1 :=
    PySem.SC.replace nt nu ntu nyz le fun t2 k2 => ⟨V.str (Txt.replace x y z), H1, J.tok k2, ⟨t2, rfl⟩, k⟩
  refine ⟨"str", _, PySem.F.plainAttrs_str, PySem.F.slot_str_replace, PySem.F.type_str_replace, typeIs_str _ _ _, (fun _ e => by cases e), ?_⟩
  apply Calls.callWith_builtin rfl
  apply Calls.evalArgs_plain
  exact Calls.spliced_cons (ld_glob J g1 m1 (Calls.spliced_cons (ld_glob J g2 m2 (Calls.spliced_nil run) d2)) d1)
end
theorem repl {ta : TE} {y z : Str} {σ : L2.St} {H : Hp} {Q : VK} (h : ta σ H fun v H1 => ∃ x, v = .str x ∧ x.length + (x.length + 1) * z.length ≤ 16777216 ∧ Q (.str (Txt.replace x y z)) H1) : tReplC ta y z σ H Q := h
end WR
namespace WZ
open PySem PySem.Spec PyProof.Rows L2
/-! ### zip of two texts -/
/-- the iterator of a text -/
def itTy (x : Str) : String := if x.cps.all (· < 128) = true then "str_ascii_iterator" else "str_iterator"
abbrev P1 (h : Heap) (x : Str) (t : Tok) : Heap := h.push { cls := .type (itTy x), data := .fields #[.str x t, .int 0 0] }
/-- the signs of two texts, side by side -/
def ItzS (x y : Str) : It :=
  ⟨fun i _ => i < x.cps.size ∧ i < y.cps.size,
    fun i H v H' => ∃ (T : Addr) (c d : Nat), v = .ref T ∧ H T = none ∧ x.cps[i]? = some c ∧ y.cps[i]? = some d ∧ H' = upd H T (.tup [.str ⟨#[c]⟩, .str ⟨#[d]⟩]),
    fun i _ => i = x.cps.size ∨ i < x.cps.size ∧ i = y.cps.size⟩
def iZipS (ta : TA) : TI := fun σ H R => ta σ H fun vs H1 => ∃ x y : Str, vs = [.str x, .str y] ∧ R (ItzS x y) H1
end WZ
namespace WP
open PySem PySem.Spec PyProof.Rows L2 WZ
theorem zipS {ta : TA} {σ : L2.St} {H : Hp} {R : It → Hp → Prop} (h : ta σ H fun vs H1 => ∃ x y : Str, vs = [.str x, .str y] ∧ R (ItzS x y) H1) : iZipS ta σ H R := h
theorem Sm.mut {H H' : Hp} {p : Addr} {xs ys : List V} (e : Sm H H') (h : H p = none) (hp : H' p = some (.lst xs)) : Sm H (upd H' p (.lst ys)) := by
  refine ⟨fun b u hb nt => ?_, fun P hP => ?_⟩
  · rw [upd_ne (ne_of_none hb h)]
    exact e.k b u hb nt
  · obtain ⟨ps, h1, h2⟩ := e.t P hP
    have n : P ≠ p := fun z => by rw [z, hp] at h1; cases h1
    exact ⟨ps, by rw [upd_ne n]; exact h1, h2⟩
end WP
namespace WP
open PySem PySem.Spec PyProof.Rows L2
/-! ### a display of three pairs -/
end WP
namespace WP
open PySem PySem.Spec PyProof.Rows L2
/-! ### own classes -/
structure ClsOk (K : PySem.W.Frag) (mg : MG) (nm : Str) (at' : List Str) : Prop where
  m : mg nm = some (.ref (ca mg nm))
  c : Cls K (ca mg nm)
  n : ∀ f ∈ at', NoAttr K (ca mg nm) f
theorem ClsOk.mk' {K : PySem.W.Frag} {mg : MG} {nm : Str} {at' : List Str} {C : Addr} (h : mg nm = some (.ref C)) (c : Cls K C) (n : ∀ f ∈ at', NoAttr K C f) : ClsOk K mg nm at' := by
  have e := ca_of h
  exact ⟨by rw [e]; exact h, by rw [e]; exact c, by rw [e]; exact n⟩
/-- a method that may be called -/
structure CalleeM (P : Program) (w : World) (K : PySem.W.Frag) (mg : MG) (base : Heap) (CX : CXT) (lv : Nat) (nm m : Str) (ps : List Str) (sp : Sp) : Prop where
  ex : ∃ (f : Addr) (fd : FuncData), FnOk P w K mg base CX lv f fd ps sp ∧ Meth K (ca mg nm) m f ∧ Binds K fd ps []
theorem CalleeM.mk' {P : Program} {w : World} {K : PySem.W.Frag} {mg : MG} {base : Heap} {CX : CXT} {lv : Nat} {nm m : Str} {ps : List Str} {sp : Sp} {C f : Addr} {fd : FuncData}
    (h : FnOk P w K mg base CX lv f fd ps sp) (hc : mg nm = some (.ref C)) (hm : Meth K C m f) (b : Binds K fd ps []) : CalleeM P w K mg base CX lv nm m ps sp := ⟨⟨f, fd, h, by rw [ca_of hc]; exact hm, b⟩⟩
/-- a class that may be made -/
structure CalleeI (P : Program) (w : World) (K : PySem.W.Frag) (mg : MG) (base : Heap) (CX : CXT) (lv : Nat) (nm : Str) (ps : List Str) (sp : Sp) : Prop where
  ex : ∃ (f : Addr) (fd : FuncData), FnOk P w K mg base CX lv f fd ps sp ∧ Mk K (ca mg nm) f ∧ Binds K fd ps []
theorem CalleeI.mk' {P : Program} {w : World} {K : PySem.W.Frag} {mg : MG} {base : Heap} {CX : CXT} {lv : Nat} {nm : Str} {ps : List Str} {sp : Sp} {C f : Addr} {fd : FuncData}
    (h : FnOk P w K mg base CX lv f fd ps sp) (hc : mg nm = some (.ref C)) (hm : Mk K C f) (b : Binds K fd ps []) : CalleeI P w K mg base CX lv nm ps sp := ⟨⟨f, fd, h, by rw [ca_of hc]; exact hm, b⟩⟩
section
variable {K : PySem.W.Frag} {σ : L2.St} {H : Hp} {Q : VK} {ta tv : TE} {t : TA} {f m : Str} {p C dx : Addr} {fs : List (Str × V)} {v : V} {D : Ends} {sp : Sp} {dvs : List V} {E : XK} {mg : MG} {nm : Str} {at' : List Str}
theorem sfld (h : tv σ H fun y H1 => ta σ H1 fun x H2 => ∃ a C dx fs, x = .ref a ∧ H2 a = some (.ins C dx fs) ∧ Cls K C ∧ NoAttr K C f ∧ fs.length < 1000 ∧ D.nx σ (upd H2 a (.ins C dx (putF f y fs)))) : sFld K ta tv f D σ H := h
theorem sfldA {R : Hp → Prop} (k : ClsOk K mg nm at') (hp : H p = some (.ins (ca mg nm) dx fs)) (hl : fs.length < 1000) (q : R (upd H p (.ins (ca mg nm) dx (putF f v fs)))) (hm : f ∈ at' := by decide +kernel) :
    ∃ a C dx fs, V.ref p = .ref a ∧ H a = some (.ins C dx fs) ∧ Cls K C ∧ NoAttr K C f ∧ fs.length < 1000 ∧ R (upd H a (.ins C dx (putF f v fs))) := ⟨p, _, dx, fs, rfl, hp, k.c, k.n f hm, hl, q⟩
theorem make (h : t σ H fun vs H1 => ∀ x dx, H1 x = none → H1 dx = none → dx ≠ x → sp (.ref x :: (vs ++ dvs)) (upd (upd H1 dx (.own x)) x (.ins C dx [])) (fun v H2 => v = .non ∧ Q (.ref x) H2) E) : tMake C sp dvs E t σ H Q := h
end
theorem same_made {H : Hp} {x dx C : Addr} (nx : H x = none) (nd : H dx = none) : Same H (upd (upd H dx (.own x)) x (.ins C dx [])) := fun b o e => by
  rw [upd_ne (ne_of_none e nx), upd_ne (ne_of_none e nd)]
  exact e
/-! ### list of a text -/
/-! ### xs[a:b] = ys -/
def gSl (to : TE) (tl th : TO) : TG := fun v σ H QS => to σ H fun o H1 => tl σ H1 fun a H2 => th σ H2 fun c H3 => ∃ (p b : Addr) (xs ys : List V) (i j : Int), o = .ref p ∧ a = some i ∧ c = some j ∧ v = .ref b ∧ H3 p = some (.lst xs) ∧ H3 b = some (.lst ys) ∧ p ≠ b ∧ 0 ≤ i ∧ i ≤ j ∧ j ≤ xs.length ∧ xs.length + ys.length ≤ sizeLine ∧
  QS σ (upd H3 p (.lst (xs.take i.toNat ++ ys ++ xs.drop j.toNat)))
theorem gsl {to : TE} {tl th : TO} {v : V} {σ : L2.St} {H : Hp} {QS : L2.St → Hp → Prop} (h : to σ H fun o H1 => tl σ H1 fun a H2 => th σ H2 fun c H3 => ∃ (p b : Addr) (xs ys : List V) (i j : Int), o = .ref p ∧ a = some i ∧ c = some j ∧ v = .ref b ∧ H3 p = some (.lst xs) ∧ H3 b = some (.lst ys) ∧ p ≠ b ∧ 0 ≤ i ∧ i ≤ j ∧ j ≤ xs.length ∧ xs.length + ys.length ≤ sizeLine ∧
  QS σ (upd H3 p (.lst (xs.take i.toNat ++ ys ++ xs.drop j.toNat)))) : gSl to tl th v σ H QS := h
section
variable {K : PySem.W.Frag} {σ : L2.St} {H : Hp} {Q : VK} {ta : TE} {f m : Str} {p dx C : Addr} {fs : List (Str × V)} {v : V} {mg : MG} {nm : Str} {at' : List Str} {i : Nat} {sp : Sp} {dvs : List V} {E : XK} {t : TA}
theorem fldV (k : ClsOk K mg nm at') (hv : σ[i]? = some (some (.ref p))) (hp : H p = some (.ins (ca mg nm) dx fs)) (hl : fs.lookup f = some v) (hm : f ∈ at') (q : Q v H) : tFld K (tVar i) f σ H Q := ⟨.ref p, hv, p, _, dx, fs, v, rfl, hp, k.c, k.n f hm, hl, q⟩
theorem methV (hv : σ[i]? = some (some (.ref p))) (hp : H p = some (.ins C dx fs)) (hl : fs.lookup m = none) (q : t σ H fun vs H2 => sp (.ref p :: (vs ++ dvs)) H2 Q E) : tMeth C m sp dvs E (tVar i) t σ H Q := ⟨.ref p, hv, p, dx, fs, rfl, hp, hl, q⟩
end
end WP
namespace WP
open PySem PySem.Spec PyProof.Rows L2
/-! ### exceptions with an own __init__ that stores fields -/
structure ExiOk (K : PySem.W.Frag) (mg : MG) (nm : Str) (ats : List Str) : Prop where
  m : mg nm = some (.ref (ca mg nm))
  o : OexC K (ca mg nm)
  x : XfC K (ca mg nm)
  n : ∀ f ∈ ats, PySem.W.findIn K (.ref (ca mg nm)) f = some none
  c : ExcC K (ca mg nm)
theorem ExiOk.mk' {K : PySem.W.Frag} {mg : MG} {nm : Str} {C : Addr} {ats : List Str} (h : mg nm = some (.ref C)) (o : OexC K C) (x : XfC K C) (n : ∀ f ∈ ats, PySem.W.findIn K (.ref C) f = some none) (c : ExcC K C) : ExiOk K mg nm ats := by
  have e := ca_of h
  exact ⟨by rw [e]; exact h, by rw [e]; exact o, by rw [e]; exact x, by rw [e]; exact n, by rw [e]; exact c⟩
theorem ExiOk.catches {K : PySem.W.Frag} {mg : MG} {nm : Str} {ats : List Str} (x : ExiOk K mg nm ats) {cls : Value} {b : Bool} (h : PySem.W.subIn K cls (.ref (ca mg nm)) = some b) : PySem.W.exmOne K cls (.ref (ca mg nm)) = some b := PySem.W.exm_ref x.o.exC x.x.hdC x.o.tyC h
structure CalleeE (P : Program) (w : World) (K : PySem.W.Frag) (mg : MG) (base : Heap) (CX : CXT) (lv : Nat) (nm : Str) (ps : List Str) (sp : Sp) : Prop where
  ex : ∃ (f : Addr) (fd : FuncData), FnOk P w K mg base CX lv f fd ps sp ∧ PySem.W.findIn K (.ref (ca mg nm)) "__init__" = some (some (.ref f)) ∧ PySem.W.typeIn K (.ref f) = some (.type "function") ∧ Binds K fd ps []
theorem CalleeE.mk' {P : Program} {w : World} {K : PySem.W.Frag} {mg : MG} {base : Heap} {CX : CXT} {lv : Nat} {nm : Str} {ps : List Str} {sp : Sp} {C f : Addr} {fd : FuncData}
    (h : FnOk P w K mg base CX lv f fd ps sp) (hc : mg nm = some (.ref C)) (hi : PySem.W.findIn K (.ref C) "__init__" = some (some (.ref f))) (ht : PySem.W.typeIn K (.ref f) = some (.type "function")) (b : Binds K fd ps []) : CalleeE P w K mg base CX lv nm ps sp := ⟨⟨f, fd, h, by rw [ca_of hc]; exact hi, ht, b⟩⟩
section
variable {X : Cx} {x : Str} {e : Expr} {es : List Expr} {ta : TA} {p pos pos2 : Pos} {W : WX} {CX : CXT} {k : Nat} {ps : List Str} {sp : Sp} {ats : List Str}
theorem ps_raiseE (hc : X.calm = true) (tk : Takes X W) (o : ExiOk X.K X.mg x ats) (c : CalleeE X.prog X.w X.K X.mg X.base CX k x ps sp) (hr : Room (k + 1) X.A) (hx : Passes CX X (fun _ _ _ => False)) (hg : Gl X x) (ha : PA X (e :: es) ta)
    (nd : (x == ("__debug__" : Str)) = false := by decide) (sh : starEach (e :: es) X.env = (false, eval e X.env) :: starEach es X.env := by rfl) (sp1 : (backTo pos (starEach es X.env)).any (·.1) = false := by rfl) :
    PS X (.Raise (some (.Call (.Name x p) (e :: es) [] pos)) none pos2) (fun _ σ H => tMkO (ca X.mg x) sp [] ta σ H fun cls d H' => W cls d σ H') := by
  obtain ⟨f, fd, F, hi, ht, b⟩ := c.ex
  exact ps_raise hc tk (pmk_oex o.o hi ht F hr b .nil hx hg o.m ha nd sh sp1)
end
end WP
namespace WP
open PySem PySem.Spec PyProof.Rows L2
/-- what a store into self asks behind its value y and its object z -/
def OstQ (K : PySem.W.Frag) (f : Str) (D : Ends) (σ : L2.St) (y z : V) (G : Hp) : Prop :=
  ∃ b B : Addr, z = .ref b ∧ OexC K B ∧ PySem.W.findIn K (.ref B) f = some none ∧ ((G b = some (exo b B none) ∧ ∀ dy, G dy = none → dy ≠ b → D.nx σ (upd (upd G dy (exd dy [(f, y)])) b (exo b B (some dy)))) ∨
    ∃ (dy : Addr) (gs : List (Str × V)), G b = some (exo b B (some dy)) ∧ G dy = some (exd dy gs) ∧ gs.length ≤ 900 ∧ D.nx σ (upd G dy (exd dy ((f, y) :: gs))))
theorem ost {K : PySem.W.Frag} {f : Str} {to te : TE} {D : Ends} {σ : L2.St} {H : Hp} (h : te σ H fun y H1 => to σ H1 fun z G => OstQ K f D σ y z G) : tOst K f to te D σ H := h
end WP
namespace WP
open PySem PySem.Spec PyProof.Rows L2
theorem mko {C : Addr} {sp : Sp} {dvs : List V} {ta : TA} {σ : L2.St} {H : Hp} {Q : XK} (h : ta σ H fun vs H1 => vs.length ≤ 1000 ∧ ∀ a, H1 a = none → sp (.ref a :: (vs ++ dvs)) (upd H1 a (exo a C none))
  (fun v H2 => v = .non ∧ ∃ (d : Addr) (fs : List (Str × V)), H2 a = some (exo a C (some d)) ∧ H2 d = some (exd d fs) ∧ H1 d = none ∧ Q (.ref C) (some d) (upd (del H2 a) d (.xd fs))) (fun _ _ _ => False)) : tMkO C sp dvs ta σ H Q := h
end WP
namespace WP
open PySem PySem.Spec PyProof.Rows L2
/-- isinstance of a caught error that has fields -/
def rIsS (K : PySem.W.Frag) (a : Addr) (cls : Value) (d : Option Addr) : List V → Hp → VK → Prop := fun xs H Q =>
  ∃ (D dd : Addr) (fs : List (Str × V)), cls = .ref D ∧ d = some dd ∧ H dd = some (.xd fs) ∧ ExcC K D ∧ rIsE K D a xs H Q
theorem isS {K : PySem.W.Frag} {a D C dd : Addr} {fs : List (Str × V)} {b : Bool} {H : Hp} {Q : VK} (c : ExcC K D) (hd : H dd = some (.xd fs)) (h : PySem.W.kitOne K (.ref D) (.ref C) = some b) (q : Q (.bl b) H) : rIsS K a (.ref D) (some dd) [.ref a, .ref C] H Q :=
  ⟨D, dd, fs, rfl, rfl, hd, c, .ref C, .ref C, b, rfl, fun _ r => r, h, q⟩
end WP
namespace WP
open PySem PySem.Spec PyProof.Rows L2
/-! ### raising, with the context kept; calls in an except suite -/
theorem okN {P : Program} {w : World} {K : PySem.W.Frag} {mg : Str → Option Value} {base : Heap} {x qual : Str} {st : Stmt} {f : Addr} {fd : FuncData} {N ps : List Str} {k : Nat} {sp : Sp} (F : Fun K x qual st f fd) (S : FnScope N ps (defScope st)) (len : ∀ vs H Q E, sp vs H Q E → vs.length = ps.length)
    (hbody : ∀ (cdv : Value) (A : Around) (outer : List Env) (s : Shared) (H : Hp) (vs : List V) (Q : VK) (E : XK), Room k (A.deeper (envOfC qual (defScope st) s.heap.objs.size f cdv)) → sp vs H Q E →
      ∃ t, PSs (cxOf (L2N.CX P w) P w K mg base N qual (defScope st) f cdv A outer s H E) (defBody st) t ∧ t { nx := fun _ H' => Q .non H', rt := Q } (start N vs) H) : FnOk P w K mg base (L2N.CX P w) (k + 1) f fd ps sp := by
  obtain ⟨oc, od, kV, doc, pm, an, cdv, ct, osl, rfl, lk, hcd⟩ := F.ex
  exact fn_of lk hcd S len fun A outer s H vs Q E hr hsp => hbody cdv A outer s H vs Q E hr hsp
section
variable {X : Cx} {x : Str} {e : Expr} {es : List Expr} {ta : TA} {te : TE} {t : TA} {p pos pos2 : Pos} {W : WX} {CX : CXT} {k j : Nat} {ps : List Str} {sp : Sp} {ats : List Str}
theorem pe_callSN {E : L2.St → XK} (C : Callee X.prog X.w X.K X.mg X.base (L2N.CX X.prog X.w) k x ps sp) (hr : Room j X.A) (hg : Gl X x) (hx : ∀ σ, PassesAt (L2N.CX X.prog X.w) X σ (E σ)) (ha : PA X (e :: es) t) (hl : k ≤ j := by decide)
    (hdb : (x == ("__debug__" : Str)) = false := by decide) (he : starEach (e :: es) X.env = (false, eval e X.env) :: starEach es X.env := by rfl) (hpl : (backTo pos (starEach es X.env)).any (·.1) = false := by rfl) :
    PE X (.Call (.Name x p) (e :: es) [] pos) (tCallS sp E t) := by
  obtain ⟨f, fd, F, hm, hk, hb⟩ := C.ex
  exact pe_callS F (hr.mono hl) hg hm hk hb hx ha hdb he hpl
/-! ### a def that is called while an exception is handled -/
end
theorem okH {P : Program} {w : World} {K : PySem.W.Frag} {mg : Str → Option Value} {base : Heap} {x qual : Str} {st : Stmt} {f : Addr} {fd : FuncData} {N ps : List Str} {k : Nat} {sp : Sp} (F : Fun K x qual st f fd) (S : FnScope N ps (defScope st)) (len : ∀ vs H Q E, sp vs H Q E → vs.length = ps.length)
    (hbody : ∀ (cdv : Value) (A : Around) (outer : List Env) (s : Shared) (H : Hp) (vs : List V) (Q : VK) (E : XK) (p : Addr × Obj), L2H.HotC (L2H.cxH CX0 P w K mg base N qual (defScope st) f cdv A outer s H E p) → L2H.RoomH k (A.deeper (envOfC qual (defScope st) s.heap.objs.size f cdv)) → sp vs H Q E →
      ∃ t, PSs (L2H.cxH CX0 P w K mg base N qual (defScope st) f cdv A outer s H E p) (defBody st) t ∧ t { nx := fun _ H' => Q .non H', rt := Q } (start N vs) H) : L2H.FnH P w K mg base CX0 (k + 1) f fd ps sp := by
  obtain ⟨oc, od, kV, doc, pm, an, cdv, ct, osl, rfl, lk, hcd⟩ := F.ex
  exact L2H.fn_ofH lk hcd S len fun A outer s H vs Q E p hot hr hsp => hbody cdv A outer s H vs Q E p ⟨p, hot, List.mem_cons_self⟩ hr hsp
end WP
namespace WP
open PySem PySem.Spec PyProof.Rows L2
end WP
namespace WP
open PySem PySem.Spec PyProof.Rows L2
/-- raise of an exception of the program with a message, the context kept -/
theorem ps_raiseCN {X : Cx} {x m : Str} {j : Nat} {p p2 pos pos2 : Pos} {W : WX} (hc : X.calm = true) (tk : L2N.Takes X W) (e : ExcOk X.K X.mg x) (hg : Gl X x) (hdb : (x == ("__debug__" : Str)) = false := by decide) : PS X (.Raise (some (.Call (.Name x p) [.Constant (.str m) j p2] [] pos)) none pos2) (fun _ σ H => W (.ref (ca X.mg x)) none σ H) :=
  L2N.ps_raise hc tk (L2N.pmk_own PySem.F.excBase_ValueError e.a.x e.m e.a.k e.a.raises hg hdb)
end WP
namespace WE1
open PySem PySem.Spec PyProof.Rows L2
/-! ### enumerate(list, start=1) -/
theorem apart_l {h : Heap} {li l : Addr} {n : Nat} {vs : Array Value} (a : h.IsListIter li l n) (b : h.IsList l vs) : l ≠ li := fun z => by
  obtain ⟨u, hu, uc, _⟩ := a
  obtain ⟨o, ho, oc, _⟩ := b
  rw [z, hu] at ho
  cases ho
  rw [uc] at oc
  exact absurd oc (by decide)
theorem draws_l {prog : Program} {w : World} {A : Around} (hh : A.handled = none) (li l : Addr) (vs : Array Value) : Draws prog w A li [li, l] vs.size (fun n u => vs[n]? = some u) (fun n h => h.IsListIter li l n ∧ h.IsList l vs) where
  live := fun n h st => by
    obtain ⟨⟨u, hu, _⟩, _⟩ := st
    exact ⟨u, hu⟩
  frame := fun n h h2 st kp => ⟨st.1.at fun u q => kp li List.mem_cons_self u q, st.2.at fun u q => kp l (by simp) u q⟩
  item := fun n s Q E lt st q => by
    have ap := apart_l st.1 st.2
    refine wpAny_nextOf_list_item st.1 st.2 (Array.getElem?_eq_getElem lt) fun h2 i2 sb => q _ h2 _ (Array.getElem?_eq_getElem lt) ⟨i2, st.2.at fun u z => ?_⟩ sb
    rw [sb.2 l ap]; exact z
  done := fun s Q E st q => wpAny_nextOf_list_end hh st.1 st.2 (Array.getElem?_eq_none (Nat.le_refl _)) q
def Itn (K : PySem.W.Frag) (a : Addr) : It where
  go := fun n G => ∃ (ys : List V) (y : V), SqL K G a ys ∧ ys[n]? = some y
  yld := fun n G v G' => ∃ N y, v = .ref N ∧ G N = none ∧ G' = upd G N (.tup [.int ((n + 1 : Nat) : Int), y]) ∧ ∀ ys, SqL K G a ys → ys[n]? = some y
  stop := fun n G => ∃ ys : List V, SqL K G a ys ∧ ys.length = n
theorem turn1 {P : Program} {w : World} {K : PySem.W.Frag} {els : List Expr} {kd : Nat} {tp : Pos} (a en li : Addr) :
    Turn P w K (.Tuple els kd tp) (Itn K a) [en, li] en (fun n h => (∃ pr, IsEnum h en li ((n + 1 : Nat) : Int) pr) ∧ h.IsListIter li a n ∧ en ≠ li) where
  mem := List.mem_cons_self
  obj := fun n h ⟨⟨pr, hE⟩, ⟨u, hu, uc, ud⟩, _⟩ b hb => by
    have cs : b = en ∨ b = li := by simpa using hb
    rcases cs with rfl | rfl
    · exact ⟨_, hE, fun v q => nomatch q⟩
    · exact ⟨u, hu, fun v q => by rw [ud] at q; cases q⟩
  keep := fun n h h2 ⟨⟨pr, hE⟩, hI, ne⟩ kp => ⟨⟨pr, kp en List.mem_cons_self _ hE⟩, hI.at fun u q => kp li (by simp) u q, ne⟩
  item := by
    intro X h1 h2 h3 hc n pins s σ G E I free st hg
    subst h1 h2 h3
    obtain ⟨⟨pr, hE⟩, hI, ne⟩ := st
    obtain ⟨ys, y, sq, hy⟩ := hg
    obtain ⟨vs, rv, pl, sz⟩ := I.list sq
    obtain ⟨u, hu, ru⟩ := rv.get hy
    have le : en < s.heap.objs.size := Heap.lt_size hE
    have ll : li < s.heap.objs.size := by
      obtain ⟨_, q, _⟩ := hI
      exact Heap.lt_size q
    have D := draws_l (prog := X.prog) (w := X.w) (A := X.A.in1) (I.ok.hd hc) li a vs.toArray
    have ne2 : en ≠ a := fun z => by
      obtain ⟨o, ho, oc, _⟩ := pl.isList
      rw [← z, hE] at ho
      cases ho
      exact absurd (show Value.type "enumerate" = Value.type "list" from oc) (by decide)
    have lt : n < vs.toArray.size := by
      have := (List.getElem?_eq_some_iff.mp hu).1
      simpa using this
    refine wpAny_pyNext_enum_itemC D hE ⟨hI, pl.isList⟩ lt ne (by simp [ne, ne2]) fun u' hp2 tk hu' ho hI2' hN hz hk => ?_
    obtain rfl : u = u' := by
      have : vs[n]? = some u' := by simpa using hu'
      rw [hu] at this
      exact Option.some.inj this
    have hI2 := hI2'.1
    refine ⟨_, rfl, wpAny_letOwnedTupleGo_enum (s := { s with heap := hp2, toks := tk + 1 }) ho fun hp3 hE3 sb => ?_⟩
    have nN : s.heap.objs.size ≠ en := Nat.ne_of_gt le
    have at3 : hp3.get? s.heap.objs.size = some { cls := .type "tuple", data := .seq #[.int ((n + 1 : Nat) : Int) tk, u] } := by rw [sb.2 _ nN]; exact hN
    have two : 2 ≤ sizeLine := by decide
    have okT : ObjOk X.prog X.w (upd G s.heap.objs.size (.tup [.int ((n + 1 : Nat) : Int), y])) hp3 s.heap.objs.size (.tup [.int ((n + 1 : Nat) : Int), y]) :=
      ⟨two, [.int ((n + 1 : Nat) : Int) tk, u], .cons ⟨_, rfl⟩ (.cons ru .nil), ⟨_, at3, rfl, _, rfl⟩⟩
    have J : Inv X pins σ (upd G s.heap.objs.size (.tup [.int ((n + 1 : Nat) : Int), y])) { s with heap := hp3, toks := tk + 1 } := by
      refine I.turnedNew (ch := [en, li]) (fun b ob hb q => ?_) free (Nat.le_refl _) okT
      have b1 : b ≠ en := fun z => hb (by simp [z])
      have b2 : b ≠ li := fun z => hb (by simp [z])
      rw [sb.2 b b1]
      exact hk b ob b1 b2 q
    refine ⟨.ref s.heap.objs.size, _, J, rfl, ⟨_, y, rfl, I.hok.fresh (Nat.le_refl _), rfl, fun zs hs => by rw [I.list_inj hs sq]; exact hy⟩, ⟨⟨u, ?_⟩, hI2.at fun ob q => by rw [sb.2 li (Ne.symm ne)]; exact q, ne⟩, fun b hb => ?_⟩
    · rw [show ((n + 1 + 1 : Nat) : Int) = ((n + 1 : Nat) : Int) + 1 by omega]
      exact hE3
    · have lb : b < s.heap.objs.size := by
        have cs : b = en ∨ b = li := by simpa using hb
        rcases cs with rfl | rfl
        · exact le
        · exact ll
      rw [upd_ne (Nat.ne_of_lt lb)]
      exact (free b hb).1
  done := by
    intro X h1 h2 h3 hc n pins s σ G E I free st hg
    subst h1 h2 h3
    obtain ⟨⟨pr, hE⟩, hI, ne⟩ := st
    obtain ⟨ys, sq, ln⟩ := hg
    obtain ⟨vs, rv, pl, sz⟩ := I.list sq
    obtain ⟨g0, g1, g2, g3, g4, g5⟩ := free li (by simp)
    have lv := rv.length
    obtain rfl : vs.toArray.size = n := by simp; omega
    exact wpAny_pyNext_enum_endD (draws_l (prog := X.prog) (w := X.w) (A := X.A.in1) (I.ok.hd hc) li a vs.toArray) hE ⟨hI, pl.isList⟩ fun hp2 same => ⟨rfl, I.turned (t' := s.toks) (fun b ob hb q => same b ob hb q) g0 g1 g3 g4 g5⟩
  self := fun A n s Q E ⟨⟨_, hE⟩, _⟩ h => wpAny_pyIter_enum hE h
def iEnum1 (K : PySem.W.Frag) (ta : TA) : TI := fun σ G R => ta σ G fun vs G1 => ∃ a ys, vs = [.ref a] ∧ SqL K G1 a ys ∧ R (Itn K a) G1
theorem kwT {M : Model} {A : Around} {E : Value → Shared → Prop} {s : Shared} {ps : Pos} {T : String} {as : List (Bool × Sem Value)} {ks : List (Option Str × Sem Value)} {Q : Value → Shared → Prop} (ha : as.any (·.1) = false) (hk : ks.any (·.1.isNone) = false)
    (q : wpAny M A (evalArgs (.type T) true as ks) (fun a u => wpAny M A (call (.type T) a.pos a.kw) Q E u) E s) : wpAny M A (callWith ps (.type T) [] as ks) Q E s := by
  unfold callWith
  apply wpAny_bind
  apply wpAny_holding
  refine wpAny_mono q (fun a u qa => ?_) fun _ _ z => z
  apply wpAny_bind
  apply wpAny_standAt
  simp only [ha, hk, Bool.or_false]
  apply wpAny_bind
  apply wpAny_pure
  apply wpAny_bind
  refine wpAny_mono qa (fun r u2 qr => ?_) fun _ _ z => z
  exact wpAny_bind (wpAny_holding (wpAny_point (wpAny_pure qr)))
theorem pi_enum1 {X : Cx} {e : Expr} {ta : TA} {p ps tp kp cp : Pos} {els : List Expr} {kd j : Nat} (hg : Gl X "enumerate") (hm : X.mg "enumerate" = none) (ha : PA X [e] ta) (hs : starEach [e] X.env = [(false, eval e X.env)] := by rfl) :
    PI X (.Tuple els kd tp) (.Call (.Name "enumerate" p) [e] [⟨some "start", .Constant (.int 1) j cp, kp⟩] ps) (iEnum1 X.K ta) := by
  refine ⟨fun pins s σ G R I h => ?_⟩
  refine PySem.wpAny_Call_Name_kw (ld_blt I hg hm PyProof.Rows.boot_enumerate ?_)
  have hb : backTo ps (starEach [e] X.env) = (false, eval e X.env) :: [] := by rw [hs]; rfl
  have pa := ha.run ps pins s σ G _ I h
  rw [hb] at pa ⊢
  refine kwT rfl rfl ?_
  refine PyProof.Rows.evalArgs_kwB rfl ?_
  refine thn pa fun us s1 q1 => ?_
  obtain ⟨vs, G1, I1, r1, a, ys, ev, sq, k⟩ := q1
  subst ev
  cases r1 with
  | cons r rr =>
    cases rr
    cases r
    refine PyProof.Rows.kws_cons ?_
    have one : PE X (.Constant (.int 1) j cp) (tC (.int 1)) := pe_int
    refine thn (one.run pins s1 σ G1 (fun z G2 => z = .int 1 ∧ R (Itn X.K a) G2 ∧ SqL X.K G2 a ys) I1 ⟨rfl, k, sq⟩) fun v s2 q2 => ?_
    obtain ⟨z, G2, I2, rz, ez, k2, sq2⟩ := q2
    subst ez
    obtain ⟨tk, ev⟩ := rz
    subst ev
    refine PyProof.Rows.kws_nil ?_
    clear I1 k sq one
    obtain ⟨vs, rv, pl, sz⟩ := I2.list sq2
    refine enum_begins_start (begins_list a vs.toArray) pl.isList (by decide) (by decide) fun hp2 hE hLi hz kp => wpAny_pyIter_enum hE ?_
    have J : Inv X pins σ G2 { s2 with heap := hp2 } := I2.kept (t' := s2.toks) kp
    have lit : hp2.IsListIter s2.heap.objs.size a 0 := ⟨_, hLi, rfl, rfl⟩
    refine ⟨s2.heap.objs.size + 1, [s2.heap.objs.size + 1, s2.heap.objs.size], _, _, G2, rfl, J, turn1 a (s2.heap.objs.size + 1) s2.heap.objs.size, ⟨⟨.none, hE⟩, lit, Nat.succ_ne_self _⟩, fun b hb => ?_, k2⟩
    have cs : b = s2.heap.objs.size + 1 ∨ b = s2.heap.objs.size := by simpa using hb
    have le : s2.heap.objs.size ≤ b := by
      rcases cs with z | z
      · rw [z]; exact Nat.le_succ _
      · exact Nat.le_of_eq z.symm
    exact I2.fpOk le (I2.hok.fresh le)
/-- for n, x in enumerate(xs, start=1) -/
theorem for_enum1 {K : PySem.W.Frag} {a : Addr} {ys : List V} {g : TG} {tb : TS} {D : Ends} {σ : L2.St} {G : Hp} (Pv : Nat → L2.St → Hp → Prop) (h0 : Pv 0 σ G) (hq : ∀ i σ G, i ≤ ys.length → Pv i σ G → SqL K G a ys)
    (hs : ∀ i y σ G N, ys[i]? = some y → G N = none → Pv i σ G → g (.ref N) σ (upd G N (.tup [.int ((i + 1 : Nat) : Int), y])) fun σ2 G2 => tb { D with nx := Pv (i + 1), ct := Pv (i + 1), bk := D.nx } σ2 G2) (hd : ∀ σ G, Pv ys.length σ G → D.nx σ G) :
    ∃ W : Nat → Nat → L2.St → Hp → Prop, (∃ m, W 0 m σ G) ∧ ∀ i m σ G, W i m σ G →
      ((Itn K a).stop i G ∧ D.nx σ G) ∨ ((Itn K a).go i G ∧ ∃ N : L2.St → Hp → Prop, (∀ σ' G', N σ' G' → ∃ m', m' < m ∧ W (i + 1) m' σ' G') ∧ ∀ x G', (Itn K a).yld i G x G' → g x σ G' fun σ2 G2 => tb { D with nx := N, ct := N, bk := D.nx } σ2 G2) := by
  refine ⟨fun i m σ G => i ≤ ys.length ∧ m = ys.length - i ∧ Pv i σ G, ⟨_, Nat.zero_le _, rfl, h0⟩, fun i m σ G hw => ?_⟩
  obtain ⟨le, rfl, pv⟩ := hw
  have sq := hq i σ G le pv
  rcases Nat.lt_or_ge i ys.length with lt | ge
  · have hy := List.getElem?_eq_getElem lt
    refine .inr ⟨⟨ys, _, sq, hy⟩, Pv (i + 1), fun σ' G' n => ⟨_, by omega, lt, rfl, n⟩, ?_⟩
    rintro x G' ⟨N, y, rfl, gn, rfl, al⟩
    exact hs i y σ G N (al ys sq) gn pv
  · have e : i = ys.length := by omega
    subst e
    exact .inl ⟨⟨ys, sq, rfl⟩, hd σ G pv⟩
end WE1
namespace WP
open PySem PySem.Spec PyProof.Rows L2
theorem enum1 {K : PySem.W.Frag} {ta : TA} {σ : L2.St} {G : Hp} {R : It → Hp → Prop} (h : ta σ G fun vs G1 => ∃ a ys, vs = [.ref a] ∧ SqL K G1 a ys ∧ R (WE1.Itn K a) G1) : WE1.iEnum1 K ta σ G R := h
end WP
namespace MD
open WP
/-- the least scale: zeros at the end are dropped -/
def nrm : Int → Nat → Int × Nat
  | u, 0 => (u, 0)
  | u, s + 1 => if u % 10 = 0 then nrm (u / 10) s else (u, s + 1)
/-- a decimal: the scale is the least one -/
def Dec (u : Int) (s : Nat) : Prop := s = 0 ∨ u % 10 ≠ 0
theorem nrm_self {u : Int} {s : Nat} (h : Dec u s) : nrm u s = (u, s) := by
  cases s with
  | zero => rfl
  | succ s =>
    unfold nrm
    rcases h with h | h
    · cases h
    · rw [if_neg h]
end MD
namespace MP
open PySem PySem.Spec PyProof.Rows L2
open SX (S)
/-- a picture with digits: a number picture or an edited one -/
inductive Pic where
  | num (sg : Bool) (w f : Nat)
  | ed (body : List Nat) (w f : Nat) (sign : List Nat)
def Pic.wh : Pic → Nat
  | .num _ w _ => w
  | .ed _ w _ _ => w
def Pic.fr : Pic → Nat
  | .num _ _ f => f
  | .ed _ _ f _ => f
def Pic.n (p : Pic) : Nat := p.wh + p.fr
def Pic.sgd : Pic → Bool
  | .num sg _ _ => sg
  | .ed _ _ _ s => !decide (s = [])
def Pic.vs : Pic → List V
  | .num sg w f => [.str (S [110, 117, 109, 98, 101, 114]), .bl sg, .int (w : Int), .int (f : Int)]
  | .ed b w f s => [.str (S [101, 100, 105, 116, 101, 100]), .str (S b), .int (w : Int), .int (f : Int), .str (S s)]
/-- z * 9 -/
def isD (c : Nat) : Bool := c == 122 || c == 42 || c == 57
/-- , b 0 / -/
def isI (c : Nat) : Bool := c == 44 || c == 98 || c == 48 || c == 47
def okM (c : Nat) : Bool := isD c || c == 46 || isI c
def signs : List (List Nat) := [[], [45], [43], [46, 45], [46, 43], [99, 114], [100, 98]]
structure Body (b : List Nat) (n : Nat) : Prop where
  hd : ∃ c r, b = c :: r ∧ isD c = true
  ok : ∀ c ∈ b, okM c = true
  ct : (b.filter isD).length = n
  ln : b.length ≤ 60
def Pic.Ok : Pic → Prop
  | .num _ w f => 1 ≤ w + f ∧ w + f ≤ 18
  | .ed b w f s => 1 ≤ w + f ∧ w + f ≤ 18 ∧ Body b (w + f) ∧ s ∈ signs
def hd (b : List Nat) : Nat := b.headD 0
def Suits (p : Pic) (u : Int) : Prop := u.natAbs < 10 ^ p.n ∧ (0 ≤ u ∨ p.sgd = true)
instance {p : Pic} {u : Int} : Decidable (Suits p u) := by unfold Suits; infer_instance
end MP
namespace MP
theorem drop_some {l : List Nat} {i c : Nat} (h : l[i]? = some c) : l.drop i = c :: l.drop (i + 1) := by
  obtain ⟨hi, e⟩ := List.getElem?_eq_some_iff.mp h
  rw [List.drop_eq_getElem_cons hi, e]
end MP
namespace MP
end MP
namespace MP
open PySem PySem.Spec PyProof.Rows L2
open SX (S)
end MP
namespace MP
end MP
namespace MP
end MP
namespace MP
end MP
namespace MW
open PySem PySem.Spec PyProof.Rows L2
open SX (S)
def FIG : List Nat := [48, 49, 50, 51, 52, 53, 54, 55, 56, 57]
def LET : List Nat := [97, 98, 99, 100, 101, 102, 103, 104, 105, 106, 107, 108, 109, 110, 111, 112, 113, 114, 115, 116, 117, 118, 119, 120, 121, 122]
def allIn (l cs : List Nat) : Bool := l.all fun c => decide (c ∈ cs)
def figs (l : List Nat) : Bool := !decide (l = []) && allIn l FIG
def prn (l : List Nat) : Bool := l.all fun c => decide (32 ≤ c ∧ c ≤ 126 ∧ c ≠ 37)
theorem figs_all {l : List Nat} (h : figs l = true) : l ≠ [] ∧ l.all (fun c => decide (48 ≤ c) && decide (c ≤ 57)) = true := by
  unfold figs at h
  rw [Bool.and_eq_true, Bool.not_eq_true', decide_eq_false_iff_not] at h
  refine ⟨h.1, List.all_eq_true.mpr fun c hc => ?_⟩
  have := List.all_eq_true.mp h.2 c hc
  have m : c ∈ FIG := of_decide_eq_true this
  have : c = 48 ∨ c = 49 ∨ c = 50 ∨ c = 51 ∨ c = 52 ∨ c = 53 ∨ c = 54 ∨ c = 55 ∨ c = 56 ∨ c = 57 := by simpa [FIG] using m
  rw [Bool.and_eq_true, decide_eq_true_eq, decide_eq_true_eq]
  omega
/-- some value of the law: a text, or something else -/
inductive Wd (K : PySem.W.Frag) (H : Hp) : V → Prop
  | str {l : List Nat} (hl : l.length ≤ 1000) (ok : ∀ c ∈ l, c < 128) : Wd K H (.str (S l))
  | non : Wd K H .non
  | int (i : Int) : Wd K H (.int i)
  | bl (b : Bool) : Wd K H (.bl b)
  | tup {p : Addr} {xs : List V} (h : SqT K H p xs) : Wd K H (.ref p)
  | lst {p : Addr} {xs : List V} (h : SqL K H p xs) : Wd K H (.ref p)
theorem Wd.sm {K : PySem.W.Frag} {H H' : Hp} {v : V} (e : WP.Sm H H') (h : Wd K H v) : Wd K H' v := by
  cases h with
  | str hl ok => exact .str hl ok
  | non => exact .non
  | int i => exact .int i
  | bl b => exact .bl b
  | tup h => exact .tup (e.tup h)
  | lst h => exact .lst (e.lst h)
def isS : V → Bool
  | .str _ => true
  | _ => false
theorem tyL {K : PySem.W.Frag} {H : Hp} {p : Addr} {xs : List V} (h : SqL K H p xs) : TyX K H (.ref p) (.type "list") := by
  rcases h with (h | ⟨o, h⟩) | h
  · exact .base (.lst h)
  · exact .base (.frz h)
  · obtain ⟨o, its, n, h1, h2, h3⟩ := h
    exact .kList h1 h2
/-- isinstance(v, str) -/
theorem Wd.isStr {K : PySem.W.Frag} {H : Hp} {v : V} {Q : VK} (h : Wd K H v) (q : Q (.bl (isS v)) H) : rIsi K [v, .ty "str"] H Q := by
  cases h with
  | str hl ok => exact WP.isY (.base (.str _)) q
  | non => exact WP.isN (.base .non) q
  | int i => exact WP.isN (.base (.int i)) q
  | bl b => exact WP.isN (.base (.bl b)) q
  | tup h => exact WP.isN (WP.tyT h) q
  | lst h => exact WP.isN (tyL h) q
/-- what is asked of a text, False of another value -/
def onS (f : List Nat → Bool) : V → Bool
  | .str z => f z.cps.toList
  | _ => false
theorem onS_S {f : List Nat → Bool} {l : List Nat} : onS f (.str (S l)) = f l := rfl
theorem Wd.cases {K : PySem.W.Frag} {H : Hp} {v : V} (h : Wd K H v) : (∃ l, v = .str (S l) ∧ l.length ≤ 1000 ∧ ∀ c ∈ l, c < 128) ∨ (isS v = false ∧ ∀ f, onS f v = false) := by
  cases h with
  | str hl ok => exact .inl ⟨_, rfl, hl, ok⟩
  | _ => exact .inr ⟨rfl, fun _ => rfl⟩
/-- the reserved words -/
def RES : List (List Nat) := [[112, 114, 111, 103, 114, 97, 109], [100, 97, 116, 97], [102, 105, 108, 101, 115], [112, 114, 111, 99, 101, 100, 117, 114, 101], [112, 105, 99, 116, 117, 114, 101], [111, 99, 99, 117, 114, 115], [118, 97, 108, 117, 101], [105, 110, 112, 117, 116], [111, 117, 116, 112, 117, 116], [114, 101, 99, 111, 114, 100], [109, 111, 118, 101], [116, 111], [115, 101, 116], [114, 111, 117, 110, 100, 101, 100], [101, 108, 115, 101], [101, 110, 100], [100, 105, 118, 105, 100, 101], [98, 121], [103, 105, 118, 105, 110, 103], [114, 101, 109, 97, 105, 110, 100, 101, 114], [105, 102], [116, 104, 101, 110], [112, 101, 114, 102, 111, 114, 109], [116, 104, 114, 117], [116, 105, 109, 101, 115], [117, 110, 116, 105, 108], [118, 97, 114, 121, 105, 110, 103], [102, 114, 111, 109], [114, 101, 97, 100], [97, 116], [98, 97, 100], [119, 114, 105, 116, 101], [115, 104, 111, 119], [115, 111, 114, 116], [100, 101, 115, 99, 101, 110, 100, 105, 110, 103], [99, 108, 101, 97, 114], [115, 116, 111, 112], [110, 111, 116], [97, 110, 100], [111, 114], [100, 105, 103, 105, 116, 115], [116, 101, 120, 116]]
def nameB (l : List Nat) : Bool :=
  decide (1 ≤ l.length ∧ l.length ≤ 20) && (!decide (l ∈ RES) && (decide (l.headD 0 ∈ LET) && (!decide ((l.getLast?).getD 0 = 45) && allIn l (LET ++ FIG ++ [45]))))
theorem ends {l : List Nat} (h : 1 ≤ l.length) : atI l (0 : Int) = some (l.headD 0) ∧ atI l (-1 : Int) = some ((l.getLast?).getD 0) := by
  cases l with
  | nil => exact absurd h (by decide)
  | cons c r =>
    refine ⟨WP.at0, ?_⟩
    have e : ixN (c :: r).length (-1) = some r.length := by
      unfold ixN
      rw [if_neg (by decide)]
      rw [List.length_cons]
      first | (rw [if_pos (by omega)]; congr 1; omega) | (simp; omega)
    unfold atI
    rw [e]
    show (c :: r)[r.length]? = _
    have e2 : (c :: r).getLast? = (c :: r)[(c :: r).length - 1]? := List.getLast?_eq_getElem?
    rw [show (c :: r).length - 1 = r.length from rfl] at e2
    rw [← e2]
    simp [List.getLast?_cons]
theorem prn_codes (l : List Nat) : ((l.map fun c => ((c : Nat) : Int)).all fun c => decide ((32 : Int) ≤ c ∧ c ≤ 126 ∧ c ≠ 37)) = prn l := by
  unfold prn
  rw [List.all_map]
  congr 1
  funext c
  show decide _ = decide _
  congr 1
  exact propext ⟨fun (h : (32 : Int) ≤ (c : Int) ∧ (c : Int) ≤ 126 ∧ (c : Int) ≠ 37) => by omega, fun h => show (32 : Int) ≤ (c : Int) ∧ (c : Int) ≤ 126 ∧ (c : Int) ≠ 37 by omega⟩
end MW
namespace MT
open PySem PySem.Spec PyProof.Rows L2 MW
open SX (S)
/-! ### a text cut at the first sign c -/
def cutW (c : Nat) (l : List Nat) : List Nat := l.takeWhile (· != c)
def cutR (c : Nat) (l : List Nat) : Option (List Nat) := match l.dropWhile (· != c) with
  | [] => none
  | _ :: r => some r
theorem dw_head {c : Nat} : ∀ {l : List Nat} {x : Nat} {r : List Nat}, l.dropWhile (· != c) = x :: r → x = c
  | [], _, _, h => by cases h
  | y :: l, x, r, h => by
    by_cases e : y = c
    · subst e
      rw [List.dropWhile_cons_of_neg (by simp)] at h
      cases h; rfl
    · rw [List.dropWhile_cons_of_pos (by simp [e])] at h
      exact dw_head h
theorem cutW_free (c : Nat) (l : List Nat) : c ∉ cutW c l := fun h => by
  have := List.all_eq_true.mp (List.all_takeWhile (l := l) (p := (· != c))) c h
  simp at this
theorem cut_none {c : Nat} {l : List Nat} (h : cutR c l = none) : cutW c l = l ∧ c ∉ l := by
  have e := List.takeWhile_append_dropWhile (p := (· != c)) (l := l)
  have hd : l.dropWhile (· != c) = [] := by
    unfold cutR at h
    split at h
    · rename_i z; exact z
    · cases h
  rw [hd, List.append_nil] at e
  have e : cutW c l = l := e
  exact ⟨e, by have := cutW_free c l; rw [e] at this; exact this⟩
theorem cut_some {c : Nat} {l r : List Nat} (h : cutR c l = some r) : l = cutW c l ++ c :: r := by
  have e := List.takeWhile_append_dropWhile (p := (· != c)) (l := l)
  unfold cutR at h
  split at h
  · cases h
  · rename_i x r' z
    cases h
    rw [z, dw_head z] at e
    exact e.symm
theorem cut_of {c : Nat} : ∀ {p q : List Nat}, c ∉ p → cutW c (p ++ c :: q) = p ∧ cutR c (p ++ c :: q) = some q
  | [], q, _ => by
    unfold cutW cutR
    simp
  | x :: p, q, h => by
    have hx : x ≠ c := fun e => h (by rw [e]; exact List.mem_cons_self ..)
    obtain ⟨h1, h2⟩ := cut_of (q := q) (c := c) (p := p) fun m => h (List.mem_cons_of_mem _ m)
    unfold cutW cutR at *
    rw [List.cons_append, List.takeWhile_cons_of_pos (by simp [hx]), List.dropWhile_cons_of_pos (by simp [hx])]
    exact ⟨by rw [h1], h2⟩
/-- partition -/
theorem part_S (c : Nat) (l : List Nat) : Txt.partition (S l) (S [c]) = (S (cutW c l), S (match cutR c l with | none => [] | some _ => [c]), S ((cutR c l).getD [])) := by
  cases h : cutR c l with
  | none =>
    obtain ⟨e, n⟩ := cut_none h
    rw [SX.partition_none (List.cons_ne_nil _ _) (SX.par_head_none n), e]
    rfl
  | some r =>
    have e := cut_some h
    have n := cutW_free c l
    have q : TL.par [c] [] l = some (cutW c l, r) := (congrArg (TL.par [c] []) e).trans (SX.par_head r n)
    rw [SX.partition_some (List.cons_ne_nil _ _) q]
    rfl
/-- split -/
theorem spl_none {c : Nat} {l : List Nat} (h : cutR c l = none) : TL.spl [c] 0 [] l = [l] := by
  have := (cut_none h).2
  have q := TL.spl_last1 (S := []) (acc := []) this
  exact q
theorem spl_some {c : Nat} {l r : List Nat} (h : cutR c l = some r) : TL.spl [c] 0 [] l = cutW c l :: TL.spl [c] 0 [] r := by
  have e := cut_some h
  have n := cutW_free c l
  have q := TL.spl_part1 (S := []) (acc := []) (rest := r) n
  have key : ∀ p, l = p ++ c :: r → TL.spl [c] 0 [] (p ++ c :: r) = p :: TL.spl [c] 0 [] r → TL.spl [c] 0 [] l = p :: TL.spl [c] 0 [] r := fun p e q => by rw [e]; exact q
  exact key _ e q
theorem spl_ne {c : Nat} (l : List Nat) : 1 ≤ (TL.spl [c] 0 [] l).length := by
  cases h : cutR c l with
  | none => rw [spl_none h]; exact Nat.le_refl 1
  | some r => rw [spl_some h]; simp
theorem spl_count {c : Nat} (n : Nat) : ∀ l : List Nat, l.length ≤ n → (TL.spl [c] 0 [] l).length ≤ l.length + 1 := by
  induction n with
  | zero =>
    intro l h
    have : l = [] := List.length_eq_zero_iff.mp (by omega)
    subst this
    rw [TL.spl_nil]
    exact Nat.le_refl _
  | succ n ih =>
    intro l h
    cases e : cutR c l with
    | none => rw [spl_none e]; simp
    | some r =>
      have e2 := congrArg List.length (cut_some e)
      rw [List.length_append, List.length_cons] at e2
      rw [spl_some e, List.length_cons]
      have := ih r (by omega)
      omega
theorem spl_flat {c : Nat} (n : Nat) : ∀ l : List Nat, l.length ≤ n → (TL.spl [c] 0 [] l).flatten.length ≤ l.length := by
  induction n with
  | zero =>
    intro l h
    have : l = [] := List.length_eq_zero_iff.mp (by omega)
    subst this
    rw [TL.spl_nil]
    exact Nat.le_refl _
  | succ n ih =>
    intro l h
    cases e : cutR c l with
    | none => rw [spl_none e]; simp
    | some r =>
      have e2 := congrArg List.length (cut_some e)
      rw [List.length_append, List.length_cons] at e2
      rw [spl_some e, List.flatten_cons, List.length_append]
      have := ih r (by omega)
      omega
/-! ### what a text spells -/
def whole (l : List Nat) : Bool := figs l && (decide (l = [48]) || !decide (l.headD 0 = 48))
def sgn (neg : Bool) (n : Nat) : Int := if neg then -(n : Int) else (n : Int)
def spellB (neg : Bool) (w : List Nat) : Option (List Nat) → Option (Int × Nat)
  | none => if whole w = true ∧ w.length ≤ 18 then some (sgn neg (NumText.digitsVal w), 0) else none
  | some f => if whole w = true ∧ figs f = true ∧ w.length + f.length ≤ 18 then some (MD.nrm (sgn neg (NumText.digitsVal (w ++ f))) f.length) else none
theorem spellB_none {neg : Bool} {w : List Nat} : spellB neg w none = if whole w = true ∧ w.length ≤ 18 then some (sgn neg (NumText.digitsVal w), 0) else none := rfl
theorem spellB_some {neg : Bool} {w f : List Nat} : spellB neg w (some f) = if whole w = true ∧ figs f = true ∧ w.length + f.length ≤ 18 then some (MD.nrm (sgn neg (NumText.digitsVal (w ++ f))) f.length) else none := rfl
def isNeg (l : List Nat) : Bool := decide (l.head? = some 45)
def bodyOf (l : List Nat) : List Nat := if isNeg l = true then l.drop 1 else l
def spell (l : List Nat) : Option (Int × Nat) := spellB (isNeg l) (cutW 46 (bodyOf l)) (cutR 46 (bodyOf l))
theorem joinL0 : ∀ l : List (List Nat), TL.joinL [] l = l.flatten
  | [] => rfl
  | [p] => by simp [TL.joinL]
  | p :: q :: r => by rw [TL.joinL, joinL0 (q :: r)]; simp
/-! ### figures -/
end MT
namespace MT
open PySem PySem.Spec PyProof.Rows L2 MW
open SX (S)
end MT
namespace MT
open PySem PySem.Spec PyProof.Rows L2 MW
open SX (S)
theorem starts_S {c : Nat} {l : List Nat} : Txt.startswith (S l) (S [c]) = decide (l.head? = some c) := by
  unfold Txt.startswith
  have h := StrLaws.subAt_one (S l) c 0
  have e : (S l).cps.toList[0]? = l.head? := by rw [List.head?_eq_getElem?]
  rw [e] at h
  rw [Bool.eq_iff_iff, Bool.and_eq_true, decide_eq_true_eq, decide_eq_true_eq]
  exact h
theorem spell_def (l : List Nat) : spell l = spellB (isNeg l) (cutW 46 (bodyOf l)) (cutR 46 (bodyOf l)) := rfl
theorem body_len (l : List Nat) : (bodyOf l).length ≤ l.length := by
  unfold bodyOf
  split
  · rw [List.length_drop]; omega
  · exact Nat.le_refl _
theorem body_mem {l : List Nat} {c : Nat} (h : c ∈ bodyOf l) : c ∈ l := by
  unfold bodyOf at h
  split at h
  · exact List.mem_of_mem_drop h
  · exact h
theorem cutW_mem {k : Nat} {l : List Nat} {c : Nat} (h : c ∈ cutW k l) : c ∈ l := (List.takeWhile_sublist _).subset h
theorem cutR_mem {k : Nat} {l r : List Nat} (e : cutR k l = some r) {c : Nat} (h : c ∈ r) : c ∈ l := by
  rw [cut_some e]
  exact List.mem_append_right _ (List.mem_cons_of_mem _ h)
theorem cutR_len {k : Nat} {l r : List Nat} (e : cutR k l = some r) : (cutW k l).length + 1 + r.length = l.length := by
  have := congrArg List.length (cut_some e)
  rw [List.length_append, List.length_cons] at this
  omega
/-- figures == text -/
theorem body_eq (l : List Nat) : decide (bodyOf l = l) = !isNeg l := by
  unfold bodyOf
  cases h : isNeg l with
  | true =>
    rw [if_pos rfl]
    refine decide_eq_false fun e => ?_
    have h := of_decide_eq_true h
    cases l with
    | nil => cases h
    | cons a r => have := congrArg List.length e; simp at this
  | false => rw [if_neg Bool.false_ne_true]; exact decide_eq_true rfl
end MT
namespace MT
open PySem PySem.Spec PyProof.Rows L2 MW
open SX (S)
/-- more than one point -/
theorem not_figs {f : List Nat} {c : Nat} (h : c ∈ f) (hc : c < 48) : figs f = false := by
  cases e : figs f with
  | false => rfl
  | true =>
    have := List.all_eq_true.mp (figs_all e).2 c h
    rw [Bool.and_eq_true, decide_eq_true_eq] at this
    omega
theorem cutR_in {c : Nat} {l r : List Nat} (e : cutR c l = some r) : c ∈ l := by
  rw [cut_some e]
  exact List.mem_append_right _ (List.mem_cons_self ..)
/-- the law's reader, by the parts -/
def readP (neg : Bool) (ps : List (List Nat)) : Option (Int × Nat) :=
  if ps.length > 2 ∨ ps.flatten.length > 18 then none else
  if ps.all figs = false then none else
  if (ps.headD []).length > 1 ∧ (ps.headD []).headD 0 = 48 then none else
  some (MD.nrm (sgn neg (NumText.digitsVal ps.flatten)) (if ps.length = 2 then (ps.getD 1 []).length else 0))
theorem whole_iff (w : List Nat) : whole w = (figs w && !decide (w.length > 1 ∧ w.headD 0 = 48)) := by
  unfold whole
  cases hf : figs w with
  | false => rfl
  | true =>
    rw [Bool.true_and, Bool.true_and]
    have hne := (figs_all hf).1
    cases w with
    | nil => exact absurd rfl hne
    | cons a r =>
      cases r with
      | nil =>
        show (decide ([a] = [48]) || !decide (a = 48)) = !decide ((1 : Nat) > 1 ∧ a = 48)
        by_cases h : a = 48
        · subst h; rfl
        · rw [decide_eq_false (show ¬ [a] = [48] from fun e => h (by simpa using e)), decide_eq_false h, decide_eq_false (fun z => h z.2)]; rfl
      | cons b r =>
        show (decide (a :: b :: r = [48]) || !decide (a = 48)) = !decide ((a :: b :: r).length > 1 ∧ a = 48)
        rw [decide_eq_false (show ¬ a :: b :: r = [48] from fun e => by simp at e), Bool.false_or]
        congr 1
        congr 1
        exact propext ⟨fun h => ⟨by simp, h⟩, fun h => h.2⟩
theorem read_spell (neg : Bool) (b : List Nat) : spellB neg (cutW 46 b) (cutR 46 b) = readP neg (TL.spl [46] 0 [] b) := by
  cases h : cutR 46 b with
  | none =>
    rw [spl_none h, (cut_none h).1, spellB_none]
    unfold readP
    have e1 : [b].flatten = b := by simp
    have e2 : [b].all figs = figs b := by simp
    rw [e1, e2]
    show _ = if ((1 : Nat) > 2 ∨ b.length > 18) then none else _
    by_cases hl : b.length > 18
    · rw [if_neg (fun z => by have := z.2; omega), if_pos (.inr hl)]
    · rw [if_neg (show ¬ ((1 : Nat) > 2 ∨ b.length > 18) from fun z => z.elim (fun z => by omega) hl)]
      rw [whole_iff]
      cases hf : figs b with
      | false => rw [if_neg (fun z => by cases z.1), if_pos rfl]
      | true =>
        rw [if_neg (show ¬ (true = false) by simp)]
        show _ = if b.length > 1 ∧ b.headD 0 = 48 then none else some (MD.nrm (sgn neg (NumText.digitsVal b)) 0)
        by_cases hz : b.length > 1 ∧ b.headD 0 = 48
        · rw [if_neg (fun z => by rw [decide_eq_true hz] at z; cases z.1), if_pos hz]
        · rw [if_neg hz, if_pos ⟨by rw [decide_eq_false hz]; rfl, by omega⟩]
          rfl
  | some f =>
    rw [spl_some h, spellB_some]
    cases h2 : cutR 46 f with
    | some g =>
      rw [spl_some h2]
      have hn := not_figs (cutR_in h2) (by decide)
      rw [if_neg (fun z => by rw [hn] at z; cases z.2.1)]
      unfold readP
      rw [if_pos (.inl (by have := spl_ne (c := 46) g; simp only [List.length_cons]; omega))]
    | none =>
      rw [spl_none h2]
      unfold readP
      have e1 : [cutW 46 b, f].flatten = cutW 46 b ++ f := by simp
      have e2 : [cutW 46 b, f].all figs = (figs (cutW 46 b) && figs f) := by simp
      rw [e1, e2]
      show _ = if ((2 : Nat) > 2 ∨ (cutW 46 b ++ f).length > 18) then none else _
      generalize cutW 46 b = w
      rw [List.length_append]
      by_cases hl : w.length + f.length > 18
      · rw [if_neg (fun z => by have := z.2; omega), if_pos (.inr hl)]
      · rw [if_neg (show ¬ ((2 : Nat) > 2 ∨ w.length + f.length > 18) from fun z => z.elim (fun z => by omega) hl), whole_iff]
        cases hf : figs f with
        | false => rw [if_neg (fun z => by cases z.2.1), if_pos (by simp)]
        | true =>
          cases hw : figs w with
          | false => rw [if_neg (fun z => by cases z.1), if_pos (show (false && true) = false from rfl)]
          | true =>
            rw [if_neg (show ¬ ((true && true) = false) by simp)]
            show _ = if w.length > 1 ∧ w.headD 0 = 48 then none else some (MD.nrm (sgn neg (NumText.digitsVal (w ++ f))) f.length)
            by_cases hz : w.length > 1 ∧ w.headD 0 = 48
            · rw [if_neg (fun z => by rw [decide_eq_true hz] at z; cases z.1), if_pos hz]
            · rw [if_neg hz, if_pos ⟨by rw [decide_eq_false hz]; rfl, rfl, by omega⟩]
end MT
namespace MT
open PySem PySem.Spec PyProof.Rows L2 MW
open SX (S)
end MT
namespace MR
open PySem PySem.Spec PyProof.Rows L2 MW MT
open SX (S)
/-! ### text.find(c, at) -/
theorem occ_full (s sub : Str) (hi : Nat) : ∀ (l : List Nat) (st : Array Nat × Nat), 1 ≤ st.fst.size → (forIn l st (StrLaws.occBody s sub hi 1)).run.fst = st.fst
  | [], st, _ => rfl
  | a :: l, st, h => by
    rw [List.forIn_cons]
    unfold StrLaws.occBody
    rw [if_neg (fun z => by have := z.1.1.1; omega)]
    exact occ_full s sub hi l _ h
theorem occ_first (s sub : Str) (hi : Nat) : ∀ (l : List Nat) (free : Nat), (∀ i ∈ l, free ≤ i) →
    (forIn l ((#[] : Array Nat), free) (StrLaws.occBody s sub hi 1)).run.fst.toList = (match l.find? (fun i => decide (i + sub.length ≤ hi ∧ Builtin.Str.subAt s sub i = true)) with | none => [] | some i => [i])
  | [], free, _ => rfl
  | a :: l, free, hf => by
    rw [List.forIn_cons]
    have ha : free ≤ a := hf a (List.mem_cons_self ..)
    by_cases hc : a + sub.length ≤ hi ∧ Builtin.Str.subAt s sub a = true
    · rw [List.find?_cons_of_pos (by simpa using hc)]
      unfold StrLaws.occBody
      rw [if_pos ⟨⟨⟨by simp, ha⟩, hc.1⟩, hc.2⟩]
      have := occ_full s sub hi l ((#[] : Array Nat).push a, a + sub.length) (by simp)
      show (forIn l ((#[] : Array Nat).push a, a + sub.length) (StrLaws.occBody s sub hi 1)).run.fst.toList = [a]
      rw [this]
      rfl
    · rw [List.find?_cons_of_neg (by simpa using hc)]
      unfold StrLaws.occBody
      rw [if_neg (fun h => hc ⟨h.1.2, h.2⟩)]
      exact occ_first s sub hi l free (fun i hi' => hf i (List.mem_cons_of_mem _ hi'))
theorem cut_consEq {c : Nat} {r : List Nat} : cutW c (c :: r) = [] ∧ cutR c (c :: r) = some r := cut_of (p := []) (fun h => by cases h)
theorem cut_consNe {c x : Nat} {r : List Nat} (h : x ≠ c) : cutW c (x :: r) = x :: cutW c r ∧ cutR c (x :: r) = cutR c r := by
  unfold cutW cutR
  rw [List.takeWhile_cons_of_pos (by simp [h]), List.dropWhile_cons_of_pos (by simp [h])]
  exact ⟨rfl, rfl⟩
theorem find_drop (c : Nat) (l : List Nat) : ∀ n lo, lo + n = l.length + 1 → (List.range' lo n).find? (fun i => decide (l[i]? = some c)) = (match cutR c (l.drop lo) with | none => none | some _ => some (lo + (cutW c (l.drop lo)).length))
  | 0, lo, h => by
    rw [List.drop_eq_nil_of_le (by omega)]
    rfl
  | n + 1, lo, h => by
    rw [List.range'_succ]
    by_cases hl : lo < l.length
    · rw [List.drop_eq_getElem_cons hl]
      by_cases hx : l[lo] = c
      · rw [List.find?_cons_of_pos (by rw [List.getElem?_eq_getElem hl, hx]; simp), hx, cut_consEq.1, cut_consEq.2]
        rfl
      · rw [List.find?_cons_of_neg (by rw [List.getElem?_eq_getElem hl]; simp [hx]), (cut_consNe hx).1, (cut_consNe hx).2, find_drop c l n (lo + 1) (by omega)]
        cases cutR c (l.drop (lo + 1)) with
        | none => rfl
        | some r => show some _ = some _; rw [List.length_cons]; congr 1; omega
    · rw [List.find?_cons_of_neg (by rw [List.getElem?_eq_none (by omega)]; simp), find_drop c l n (lo + 1) (by omega), List.drop_eq_nil_of_le (by omega), List.drop_eq_nil_of_le (by omega)]
      rfl
theorem find_S (c : Nat) (l : List Nat) (at0 : Nat) (h : at0 ≤ l.length) : Txt.find3 (S l) (S [c]) (at0 : Int) = (match cutR c (l.drop at0) with | none => -1 | some _ => ((at0 + (cutW c (l.drop at0)).length : Nat) : Int)) := by
  unfold Txt.find3
  have e0 : fromIndex (S l).length (at0 : Int) = at0 := by
    unfold fromIndex
    rw [if_neg (by omega)]
    omega
  rw [e0, StrLaws.occ_eq, occ_first _ _ _ _ _ (fun i hi => by have := List.mem_range'.mp hi; obtain ⟨k, _, e⟩ := this; omega)]
  have e1 : (fun i => decide (i + (S [c]).length ≤ (S l).length ∧ Builtin.Str.subAt (S l) (S [c]) i = true)) = (fun i => decide (l[i]? = some c)) := by
    funext i
    congr 1
    exact propext (StrLaws.subAt_one (S l) c i)
  rw [e1, SX.S_len, find_drop c l _ at0 (by omega)]
  cases cutR c (l.drop at0) with
  | none => rfl
  | some r => rfl
/-! ### lstrip of one sign -/
/-! ### the spread row -/
end MR
namespace MR
open PySem PySem.Spec PyProof.Rows L2 MW MT
open SX (S)
/-! ### the program's reading, written out -/
def wh (d : List Nat) : List Nat := if d.head? = some 122 then d.dropWhile (· == 122) else d.dropWhile (· == 42)
inductive Res where
  | txt (n : Nat)
  | pic (p : MP.Pic)
def Res.vs : Res → List V
  | .txt n => [.str (S [116, 101, 120, 116]), .int (n : Int)]
  | .pic p => p.vs
end MR
namespace MR
open PySem PySem.Spec PyProof.Rows L2 MW MT
open SX (S)
/-! ### the law's edited pictures -/
theorem not_true {b : Bool} (h : ¬ b = true) : b = false := by cases b <;> simp_all
end MR
namespace MR
open PySem PySem.Spec PyProof.Rows L2 MW MT
open SX (S)
theorem nm {n : Nat} (h : n ≤ 100) : (TL.numL n).length ≤ 3 ∧ ∀ c ∈ TL.numL n, c < 128 := ⟨TL.numL_len (k := 3) (by decide) (by omega), fun c hc => by
  have := TL.numL_digits _ c hc
  omega⟩
end MR
namespace MR
open PySem PySem.Spec PyProof.Rows L2 MW MT
open SX (S)
def Res.ds : Res → List PyData
  | .txt n => [.str (S [116, 101, 120, 116]), .int (n : Int)]
  | .pic (.num sg w f) => [.str (S [110, 117, 109, 98, 101, 114]), .bool sg, .int (w : Int), .int (f : Int)]
  | .pic (.ed b w f s) => [.str (S [101, 100, 105, 116, 101, 100]), .str (S b), .int (w : Int), .int (f : Int), .str (S s)]
theorem Res.dp {K : PySem.W.Frag} {H : Hp} : ∀ r : Res, DpAll K H r.vs r.ds
  | .txt _ => .cons (.str _) (.cons (.int _) .nil)
  | .pic (.num _ _ _) => .cons (.str _) (.cons (.bl _) (.cons (.int _) (.cons (.int _) .nil)))
  | .pic (.ed _ _ _ _) => .cons (.str _) (.cons (.str _) (.cons (.int _) (.cons (.int _) (.cons (.str _) .nil))))
def Res.Lt : Res → Prop
  | .txt _ => True
  | .pic (.num _ _ _) => True
  | .pic (.ed b _ _ s) => (∀ c ∈ b, c < 128) ∧ ∀ c ∈ s, c < 128
theorem and2 {a b : Bool} (h : a = true) (k : b = true) : (a && b) = true := Bool.and_eq_true_iff.mpr ⟨h, k⟩
theorem Res.lay : ∀ {r : Res}, r.Lt → (PyData.tuple r.ds).canLay0 = true
  | .txt _, _ => and2 (WP.sok_S (l := [116, 101, 120, 116]) (by decide)) rfl
  | .pic (.num _ _ _), _ => and2 (WP.sok_S (l := [110, 117, 109, 98, 101, 114]) (by decide)) rfl
  | .pic (.ed _ _ _ _), h => and2 (WP.sok_S (l := [101, 100, 105, 116, 101, 100]) (by decide)) (and2 (WP.sok_S fun c hc => Nat.lt_trans (h.1 c hc) (by decide)) (and2 rfl (and2 rfl (and2 (WP.sok_S fun c hc => Nat.lt_trans (h.2 c hc) (by decide)) rfl))))
theorem Res.sh : ∀ {r : Res}, r.Lt → SeqAt.shaped (.tuple r.ds) = true
  | .txt _, h => and2 (Res.lay h) rfl
  | .pic (.num _ _ _), h => and2 (Res.lay h) rfl
  | .pic (.ed _ _ _ _), h => and2 (Res.lay h) rfl
theorem Res.ne (r : Res) (x : Str) : PyData.eqv (.tuple r.ds) (.str x) = false := by
  first | rfl | (cases r <;> rfl) | (unfold PyData.eqv; rfl)
end MR
namespace MR
open PySem PySem.Spec PyProof.Rows L2 MW MT
theorem Res.len : ∀ r : Res, 2 ≤ r.vs.length ∧ r.vs.length ≤ 5
  | .txt _ => ⟨by show 2 ≤ 2; decide, by show 2 ≤ 5; decide⟩
  | .pic (.num _ _ _) => ⟨by show 2 ≤ 4; decide, by show 4 ≤ 5; decide⟩
  | .pic (.ed _ _ _ _) => ⟨by show 2 ≤ 5; decide, by show 5 ≤ 5; decide⟩
end MR
namespace WP
open PySem PySem.Spec PyProof.Rows L2
theorem at_C {l : List Nat} {i : Int} (h0 : 0 ≤ i) (h1 : i < (l.length : Int)) : ∃ c, c ∈ l ∧ atI l i = some c := by
  have hl : i.toNat < l.length := by omega
  refine ⟨l[i.toNat], List.getElem_mem hl, ?_⟩
  have := atI_nat (xs := l) (j := i.toNat) (List.getElem?_eq_getElem hl)
  rw [Int.toNat_of_nonneg h0] at this
  exact this
end WP
namespace WP
open PySem PySem.Spec PyProof.Rows L2
theorem at_M {α : Type} {l : List α} (f : α → V) {i : Int} (h0 : 0 ≤ i) (h1 : i < (l.length : Int)) : ∃ c, c ∈ l ∧ atI (l.map f) i = some (f c) := by
  have hl : i.toNat < l.length := by omega
  refine ⟨l[i.toNat], List.getElem_mem hl, ?_⟩
  have := atI_nat (xs := l.map f) (j := i.toNat) (by rw [List.getElem?_map, List.getElem?_eq_getElem hl]; rfl)
  rw [Int.toNat_of_nonneg h0] at this
  exact this
theorem catLL {H : Hp} {Q : VK} {p b : Addr} {xs ys : List V} (h : H p = some (.lst xs)) (h2 : H b = some (.lst ys)) (hz : xs.length + ys.length ≤ 1000000) (q : ∀ a, H a = none → Q (.ref a) (upd H a (.lst (xs ++ ys)))) : rCat (.ref p) (.ref b) H Q :=
  ⟨p, b, xs, ys, rfl, rfl, h, h2, by rw [sizeLine_eq]; omega, q⟩
/-- all but what stands at d stays, tables stay tables -/
structure Sn (d : Addr) (H H' : Hp) : Prop where
  k : ∀ b u, b ≠ d → H b = some u → NT u → H' b = some u
  t : ∀ P, GxR.TabG H P → GxR.TabG H' P
theorem Sn.refl {d : Addr} {H : Hp} : Sn d H H := ⟨fun _ _ _ e _ => e, fun _ h => h⟩
theorem Sn.trans {d : Addr} {H H' H2 : Hp} (a : Sn d H H') (b : Sn d H' H2) : Sn d H H2 := ⟨fun x u m e n => b.k x u m (a.k x u m e n) n, fun P h => b.t P (a.t P h)⟩
theorem Sn.of {d : Addr} {H H' : Hp} (e : Sm H H') : Sn d H H' := ⟨fun b u _ h n => e.k b u h n, e.t⟩
theorem Sn.sx {d : Addr} {H H' : Hp} {ys : List V} (e : Sx d H H') (hd : H d = some (.lst ys)) : Sn d H H' := ⟨fun b u m h _ => e b u m h, fun P ⟨ps, h, t⟩ => ⟨ps, e P _ (fun z => by rw [z, hd] at h; cases h) h, t⟩⟩
theorem Sn.tup {K : PySem.W.Frag} {d : Addr} {H H' : Hp} {p : Addr} {xs ys : List V} (e : Sn d H H') (hd : H d = some (.lst ys)) (h : SqT K H p xs) : SqT K H' p xs := by
  rcases h with (h | ⟨o, h⟩) | h
  · exact .inl (.inl (e.k _ _ (fun z => by rw [z, hd] at h; cases h) h nt_tup))
  · exact .inl (.inr ⟨o, e.k _ _ (fun z => by rw [z, hd] at h; cases h) h nt_frz⟩)
  · exact .inr h
end WP
namespace WP
open PySem PySem.Spec PyProof.Rows L2
theorem bt8 {m : Int} (h : m.natAbs ≤ 10 ^ 18) : Bt m 8000 := Nat.lt_of_le_of_lt h (Nat.lt_of_lt_of_le (show 10 ^ 18 < 2 ^ 60 by decide) (Nat.pow_le_pow_right (by decide) (by decide)))
end WP
namespace WP
open PySem PySem.Spec PyProof.Rows L2
theorem par {i j : Nat} {ta : TA} {D : Ends} {σ : L2.St} {H : Hp} (h : ta σ H fun vs H1 => ∃ v w, vs = [v, w] ∧ D.nx ((σ.set i (some v)).set j (some w)) H1) : tPar i j ta D σ H := h
end WP
namespace WP
open PySem PySem.Spec PyProof.Rows L2
end WP
namespace WP
open PySem PySem.Spec PyProof.Rows L2
end WP
namespace MK
open PySem PySem.Spec PyProof.Rows L2 CwR PySem.StrLaws
open SX (S)
/-- quotes doubled -/
def dq : List Nat → List Nat
  | [] => []
  | c :: r => if c = 39 then 39 :: 39 :: dq r else c :: dq r
theorem dq_q (r : List Nat) : dq (39 :: r) = 39 :: 39 :: dq r := rfl
theorem dq_c {c : Nat} (h : c ≠ 39) (r : List Nat) : dq (c :: r) = c :: dq r := by
  show (if c = 39 then _ else _) = _
  rw [if_neg h]
theorem dq_app (a b : List Nat) : dq (a ++ b) = dq a ++ dq b := by
  induction a with
  | nil => rfl
  | cons c r ih =>
    by_cases h : c = 39
    · subst h
      rw [List.cons_append, dq_q, dq_q, ih]; rfl
    · rw [List.cons_append, dq_c h, dq_c h, ih]; rfl
theorem dq_len (l : List Nat) : (dq l).length ≤ 2 * l.length := by
  induction l with
  | nil => exact Nat.le_refl _
  | cons c r ih =>
    unfold dq
    split
    · simp only [List.length_cons]; omega
    · simp only [List.length_cons]; omega
theorem uq_L : ∀ l : List Nat, replL [39, 39] [39] (dq l) = l
  | [] => replL_nil
  | c :: r => by
    by_cases h : c = 39
    · subst h
      show replL [39, 39] [39] (39 :: 39 :: dq r) = _
      rw [replL_hit (by decide) rfl]
      show [39] ++ replL [39, 39] [39] (dq r) = _
      rw [uq_L r]
      rfl
    · have e : dq (c :: r) = c :: dq r := by show (if c = 39 then _ else _) = _; rw [if_neg h]
      rw [e, replL_miss (by
        show ¬ c :: (dq r).take 1 = [39, 39]
        intro z
        exact h (by injection z)), uq_L r]
theorem ofL {s : Str} {l : List Nat} (h : s.cps.toList = l) : s = S l := by
  cases s with
  | mk a => 
    have : a.toList = l := h
    subst this
    show Str.mk a = Str.mk a.toList.toArray
    rw [Array.toArray_toList]
theorem toL (l : List Nat) : (S l).cps.toList = l := rfl
theorem repl_uq (l : List Nat) : Txt.replace (S (dq l)) ("''" : Str) ("'" : Str) = S l := by
  refine ofL ?_
  rw [replace_list (by decide +kernel), toL]
  have e1 : ("'" : Str).cps.toList = [39] := by decide +kernel
  have e2 : ("''" : Str).cps.toList = [39, 39] := by decide +kernel
  rw [e1, e2, uq_L]
def MA : List Nat := [32, 33, 34, 35, 36, 38, 40, 41, 42, 43, 44, 45, 46, 47, 48, 49, 50, 51, 52, 53, 54, 55, 56, 57, 58, 59, 60, 61, 62, 63, 64, 65, 66, 67, 68, 69, 70, 71, 72, 73, 74, 75, 76, 77, 78, 79, 80, 81, 82, 83, 84, 85, 86, 87, 88, 89, 90, 91, 92, 93, 94, 95, 96]
def MB : List Nat := [97, 98, 99, 100, 101, 102, 103, 104, 105, 106, 107, 108, 109, 110, 111, 112, 113, 114, 115, 116, 117, 118, 119, 120, 121, 122, 123, 124, 125, 126, 39]
theorem ma_ok : ∀ c ∈ MA ++ MB, 32 ≤ c ∧ c ≤ 126 ∧ c ≠ 37 := by decide
/-- where the string ends: its last quote -/
def sEnd : List Nat → Nat → Option Nat
  | [], _ => none
  | [c], n => if c = 39 then some n else none
  | c :: d :: r, n => if c = 39 then (if d = 39 then sEnd r (n + 2) else some n) else sEnd (d :: r) (n + 1)
theorem sEnd_c {c : Nat} (h : c ≠ 39) (r : List Nat) (n : Nat) : sEnd (c :: r) n = sEnd r (n + 1) := by
  cases r with
  | nil => show (if c = 39 then _ else _) = _; rw [if_neg h]; rfl
  | cons d r => show (if c = 39 then _ else _) = _; rw [if_neg h]
theorem sEnd_none : ∀ (m : List Nat) (n : Nat), MT.cutR 39 m = none → sEnd m n = none
  | [], n, _ => rfl
  | c :: r, n, h => by
    by_cases e : c = 39
    · subst e
      rw [MR.cut_consEq.2] at h; cases h
    · rw [(MR.cut_consNe e).2] at h
      rw [sEnd_c e, sEnd_none r _ h]
theorem sEnd_some : ∀ (m : List Nat) (n : Nat) (q : List Nat), MT.cutR 39 m = some q → sEnd m n = (if q.take 1 = [39] then sEnd (q.drop 1) (n + (MT.cutW 39 m).length + 2) else some (n + (MT.cutW 39 m).length)) ∧ m.drop ((MT.cutW 39 m).length + 1) = q ∧ (MT.cutW 39 m).length < m.length
  | [], n, q, h => by
    have : MT.cutR 39 [] = none := rfl
    rw [this] at h; cases h
  | c :: r, n, q, h => by
    by_cases e : c = 39
    · subst e
      rw [MR.cut_consEq.2] at h
      cases h
      rw [MR.cut_consEq.1]
      refine ⟨?_, rfl, by show 0 < _ + 1; omega⟩
      cases r with
      | nil => rfl
      | cons d r =>
        show (if (39 : Nat) = 39 then (if d = 39 then sEnd r (n + 2) else some n) else _) = _
        rw [if_pos rfl]
        by_cases e : d = 39
        · subst e
          rfl
        · rw [if_neg e, if_neg (by simpa using e)]; rfl
    · rw [(MR.cut_consNe e).2] at h
      obtain ⟨h1, h2, h3⟩ := sEnd_some r (n + 1) q h
      rw [(MR.cut_consNe e).1, sEnd_c e, h1]
      refine ⟨?_, ?_, by show (MT.cutW 39 r).length + 1 < r.length + 1; omega⟩
      · show _ = (if q.take 1 = [39] then sEnd (q.drop 1) (n + ((MT.cutW 39 r).length + 1) + 2) else some (n + ((MT.cutW 39 r).length + 1)))
        rw [show n + 1 + (MT.cutW 39 r).length = n + ((MT.cutW 39 r).length + 1) by omega]
      · exact h2
end MK
namespace D
open PySem PySem.Spec PyProof.Rows L2
/-! ### tokens of lines -/
/-- where the word ends -/
def eow (l : List Nat) (s : Nat) : Nat := s + (MT.cutW 32 (l.drop s)).length
/-- a token: is it a string, its text -/
abbrev Tk := Bool × List Nat
def Tk.vs (r : Int) (t : Tk) : List V := [.int r, .str (SX.S (if t.1 = true then [115, 116, 114, 105, 110, 103] else [119, 111, 114, 100])), .str (SX.S t.2)]
/-- the tokens of a line, from a place on; none where it is at fault -/
inductive Run (l : List Nat) : Nat → Option (List Tk) → Prop where
  | stop {n : Nat} (h : l.length ≤ n) : Run l n (some [])
  | space {n : Nat} {o : Option (List Tk)} (h : l[n]? = some 32) (r : Run l (n + 1) o) : Run l n o
  | str {n a : Nat} {s : List Nat} {o : Option (List Tk)} (h : l[n]? = some 39) (e : MK.sEnd (l.drop (n + 1)) (n + 1) = some a) (g : (l.drop (a + 1)).take 1 ∈ [[], [32]]) (hs : (l.drop (n + 1)).take (a - (n + 1)) = MK.dq s) (ha : n < a ∧ a < l.length) (r : Run l (a + 1) o) : Run l n (o.map ((true, s) :: ·))
  | bad1 {n : Nat} (h : l[n]? = some 39) (e : MK.sEnd (l.drop (n + 1)) (n + 1) = none) : Run l n none
  | bad2 {n a : Nat} (h : l[n]? = some 39) (e : MK.sEnd (l.drop (n + 1)) (n + 1) = some a) (g : ¬ (l.drop (a + 1)).take 1 ∈ [[], [32]]) : Run l n none
  | word {n c : Nat} {o : Option (List Tk)} (h : l[n]? = some c) (h1 : c ≠ 32) (h2 : c ≠ 39) (g : ¬ 39 ∈ MT.cutW 32 (l.drop n)) (r : Run l (eow l n) o) : Run l n (o.map ((false, MT.cutW 32 (l.drop n)) :: ·))
  | bad3 {n c : Nat} (h : l[n]? = some c) (h1 : c ≠ 32) (h2 : c ≠ 39) (g : 39 ∈ MT.cutW 32 (l.drop n)) : Run l n none
def lns (l : List Nat) : List (List Nat) := TL.spl [10] 0 [] l
/-- the tokens of the lines, with their rows -/
def rowsF : Nat → List (List Tk) → List (Nat × Tk)
  | _, [] => []
  | n, ts :: r => ts.map (fun t => (n, t)) ++ rowsF (n + 1) r
theorem rowsF_app (n : Nat) (a : List (List Tk)) (b : List Tk) : rowsF n (a ++ [b]) = rowsF n a ++ b.map (fun t => (n + a.length, t)) := by
  induction a generalizing n with
  | nil => show b.map _ ++ rowsF (n + 1) [] = [] ++ b.map _; rw [show rowsF (n + 1) [] = [] from rfl, List.append_nil]; rfl
  | cons x r ih =>
    show x.map _ ++ rowsF (n + 1) (r ++ [b]) = (x.map _ ++ rowsF (n + 1) r) ++ _
    rw [ih, List.append_assoc, List.length_cons, show n + 1 + r.length = n + (r.length + 1) by omega]
end D
namespace D
open PySem PySem.Spec PyProof.Rows L2
/-- from a suffix of a line on -/
def RunS (s : List Nat) (o : Option (List Tk)) : Prop := ∀ p : List Nat, Run (p ++ s) p.length o
theorem app_at (p s : List Nat) (c : Nat) : (p ++ c :: s)[p.length]? = some c := by
  rw [List.getElem?_append_right (Nat.le_refl _), Nat.sub_self]; rfl
theorem RunS.nil : RunS [] (some []) := fun p => .stop (by rw [List.append_nil]; exact Nat.le_refl _)
theorem RunS.sp {s : List Nat} {o : Option (List Tk)} (h : RunS s o) : RunS (32 :: s) o := fun p => by
  refine .space (app_at p s 32) ?_
  have := h (p ++ [32])
  rw [List.append_assoc, List.length_append] at this
  exact this
theorem cutW_app {c : Nat} {w s : List Nat} (h : ∀ x ∈ w, x ≠ c) : MT.cutW c (w ++ s) = w ++ MT.cutW c s := by
  induction w with
  | nil => rfl
  | cons x w ih =>
    rw [List.cons_append, (MR.cut_consNe (h x List.mem_cons_self)).1, ih fun y hy => h y (List.mem_cons_of_mem _ hy)]; rfl
theorem cutW_end {c : Nat} {s : List Nat} (h : s = [] ∨ ∃ t, s = c :: t) : MT.cutW c s = [] := by
  rcases h with rfl | ⟨t, rfl⟩
  · rfl
  · exact MR.cut_consEq.1
theorem RunS.word {w s : List Nat} {o : Option (List Tk)} (hw : w ≠ []) (hc : ∀ c ∈ w, c ≠ 32 ∧ c ≠ 39) (hs : s = [] ∨ ∃ t, s = 32 :: t) (h : RunS s o) : RunS (w ++ s) (o.map ((false, w) :: ·)) := fun p => by
  have e1 : MT.cutW 32 ((p ++ (w ++ s)).drop p.length) = w := by
    rw [List.drop_left, cutW_app fun x hx => (hc x hx).1, cutW_end hs, List.append_nil]
  obtain ⟨c, w', rfl⟩ := List.exists_cons_of_ne_nil hw
  have hr : Run (p ++ (c :: w' ++ s)) (eow (p ++ (c :: w' ++ s)) p.length) o := by
    unfold eow
    rw [e1]
    have := h (p ++ (c :: w'))
    rw [List.append_assoc, List.length_append] at this
    exact this
  have := Run.word (app_at p (w' ++ s) c) (hc c List.mem_cons_self).1 (hc c List.mem_cons_self).2 (by
    show ¬ 39 ∈ MT.cutW 32 ((p ++ (c :: w' ++ s)).drop p.length)
    rw [e1]; exact fun z => (hc 39 z).2 rfl) hr
  have e2 : MT.cutW 32 ((p ++ c :: (w' ++ s)).drop p.length) = c :: w' := e1
  rw [e2] at this
  exact this
theorem sEnd_skip {w t : List Nat} (h : ∀ c ∈ w, c ≠ 39) (n : Nat) : MK.sEnd (w ++ t) n = MK.sEnd t (n + w.length) := by
  induction w generalizing n with
  | nil => rfl
  | cons c w ih =>
    rw [List.cons_append, MK.sEnd_c (h c List.mem_cons_self), ih (fun x hx => h x (List.mem_cons_of_mem _ hx)), List.length_cons, show n + 1 + w.length = n + (w.length + 1) by omega]
theorem sEnd_no {w : List Nat} (h : ∀ c ∈ w, c ≠ 39) (n : Nat) : MK.sEnd w n = none := by
  have := sEnd_skip (t := []) h n
  rw [List.append_nil] at this
  rw [this]; rfl
theorem sEnd_q {s : List Nat} (h : ∀ c, s.head? = some c → c ≠ 39) (n : Nat) : MK.sEnd (39 :: s) n = some n := by
  cases s with
  | nil => rfl
  | cons d r =>
    show (if (39 : Nat) = 39 then (if d = 39 then MK.sEnd r (n + 2) else some n) else _) = _
    rw [if_pos rfl, if_neg (h d rfl)]
theorem sEnd_dq (q : List Nat) {s : List Nat} (h : ∀ c, s.head? = some c → c ≠ 39) (n : Nat) : MK.sEnd (MK.dq q ++ 39 :: s) n = some (n + (MK.dq q).length) := by
  induction q generalizing n with
  | nil => exact sEnd_q h n
  | cons c q ih =>
    by_cases e : c = 39
    · subst e
      rw [MK.dq_q]
      show (if (39 : Nat) = 39 then (if (39 : Nat) = 39 then MK.sEnd (MK.dq q ++ 39 :: s) (n + 2) else some n) else _) = _
      rw [if_pos rfl, if_pos rfl, ih, List.length_cons, List.length_cons, show n + 2 + (MK.dq q).length = n + ((MK.dq q).length + 1 + 1) by omega]
    · rw [MK.dq_c e, List.cons_append, MK.sEnd_c e, ih, List.length_cons, show n + 1 + (MK.dq q).length = n + ((MK.dq q).length + 1) by omega]
theorem RunS.str {q s : List Nat} {o : Option (List Tk)} (hs : s = [] ∨ ∃ t, s = 32 :: t) (h : RunS s o) : RunS (39 :: (MK.dq q ++ 39 :: s)) (o.map ((true, q) :: ·)) := fun p => by
  have hh : ∀ c, s.head? = some c → c ≠ 39 := by
    rintro c hc rfl
    rcases hs with rfl | ⟨t, rfl⟩
    · cases hc
    · cases hc
  have d1 : (p ++ 39 :: (MK.dq q ++ 39 :: s)).drop (p.length + 1) = MK.dq q ++ 39 :: s := by
    rw [← List.drop_drop, List.drop_left]; rfl
  have d2 : (p ++ 39 :: (MK.dq q ++ 39 :: s)).drop (p.length + 1 + (MK.dq q).length + 1) = s := by
    rw [← List.drop_drop, ← List.drop_drop, d1, List.drop_left]; rfl
  refine Run.str (a := p.length + 1 + (MK.dq q).length) (app_at p _ 39) (by rw [d1]; exact sEnd_dq q hh _) (by
    rw [d2]
    rcases hs with rfl | ⟨t, rfl⟩
    · exact List.mem_cons_self
    · exact List.mem_cons_of_mem _ List.mem_cons_self) (by
    rw [d1, show p.length + 1 + (MK.dq q).length - (p.length + 1) = (MK.dq q).length by omega, List.take_left]) ⟨by omega, by
      rw [List.length_append, List.length_cons, List.length_append, List.length_cons]; omega⟩ ?_
  have := h (p ++ 39 :: (MK.dq q ++ [39]))
  have e1 : p ++ 39 :: (MK.dq q ++ [39]) ++ s = p ++ 39 :: (MK.dq q ++ 39 :: s) := by simp
  have e2 : (p ++ 39 :: (MK.dq q ++ [39])).length = p.length + 1 + (MK.dq q).length + 1 := by
    rw [List.length_append, List.length_cons, List.length_append, List.length_singleton]; omega
  rw [e1, e2] at this
  exact this
theorem RunS.bad1 {m : List Nat} (h : ∀ n, MK.sEnd m n = none) : RunS (39 :: m) none := fun p => by
  refine Run.bad1 (app_at p m 39) ?_
  rw [← List.drop_drop, List.drop_left]
  exact h _
theorem RunS.bad2 {w s : List Nat} {c : Nat} (hw : ∀ x ∈ w, x ≠ 39) (h1 : c ≠ 39) (h2 : c ≠ 32) : RunS (39 :: (w ++ 39 :: c :: s)) none := fun p => by
  have d1 : (p ++ 39 :: (w ++ 39 :: c :: s)).drop (p.length + 1) = w ++ 39 :: c :: s := by
    rw [← List.drop_drop, List.drop_left]; rfl
  have d2 : (p ++ 39 :: (w ++ 39 :: c :: s)).drop (p.length + 1 + w.length + 1) = c :: s := by
    rw [← List.drop_drop, ← List.drop_drop, d1, List.drop_left]; rfl
  refine Run.bad2 (a := p.length + 1 + w.length) (app_at p _ 39) (by rw [d1, sEnd_skip hw]; exact sEnd_q (fun x hx => by cases hx; exact h1) _) ?_
  rw [d2]
  intro z
  rcases List.mem_cons.mp z with z | z
  · cases z
  · have := List.mem_singleton.mp z
    injection this with a b
    exact h2 a
theorem RunS.bad3 {w s : List Nat} (hw : w ≠ []) (hc : ∀ c ∈ w, c ≠ 32 ∧ c ≠ 39) : RunS (w ++ 39 :: s) none := fun p => by
  obtain ⟨c, w', rfl⟩ := List.exists_cons_of_ne_nil hw
  refine Run.bad3 (app_at p (w' ++ 39 :: s) c) (hc c List.mem_cons_self).1 (hc c List.mem_cons_self).2 ?_
  show 39 ∈ MT.cutW 32 ((p ++ (c :: w' ++ 39 :: s)).drop p.length)
  rw [List.drop_left, cutW_app fun x hx => (hc x hx).1, (MR.cut_consNe (show (39 : Nat) ≠ 32 by decide)).1]
  exact List.mem_append.mpr (.inr List.mem_cons_self)
/-! ### lines -/
def lf : List Nat → List (List Nat)
  | [] => [[]]
  | c :: r => if c = 10 then [] :: lf r else match lf r with
    | h :: t => (c :: h) :: t
    | [] => [[c]]
theorem lf_ne : ∀ l : List Nat, ∃ h t, lf l = h :: t
  | [] => ⟨[], [], rfl⟩
  | c :: r => by
    obtain ⟨h, t, e⟩ := lf_ne r
    by_cases k : c = 10
    · exact ⟨[], lf r, by show (if c = 10 then _ else _) = _; rw [if_pos k]⟩
    · exact ⟨c :: h, t, by show (if c = 10 then _ else _) = _; rw [if_neg k, e]⟩
theorem lf_nl (r : List Nat) : lf (10 :: r) = [] :: lf r := by
  show (if (10 : Nat) = 10 then _ else _) = _
  rw [if_pos rfl]
theorem lf_c {c : Nat} {r h : List Nat} {t : List (List Nat)} (k : c ≠ 10) (e : lf r = h :: t) : lf (c :: r) = (c :: h) :: t := by
  show (if c = 10 then _ else _) = _
  rw [if_neg k, e]
theorem lf_app {a b h : List Nat} {t : List (List Nat)} (k : ∀ c ∈ a, c ≠ 10) (e : lf b = h :: t) : lf (a ++ b) = (a ++ h) :: t := by
  induction a with
  | nil => exact e
  | cons c a ih => exact lf_c (k c List.mem_cons_self) (ih fun x hx => k x (List.mem_cons_of_mem _ hx))
theorem spl_lf : ∀ (l acc h : List Nat) (t : List (List Nat)), lf l = h :: t → TL.spl [10] 0 acc l = (acc ++ h) :: t
  | [], acc, h, t, e => by
    cases e
    rw [TL.spl_nil, List.append_nil]
  | c :: r, acc, h, t, e => by
    by_cases k : c = 10
    · subst k
      rw [lf_nl] at e
      cases e
      obtain ⟨h2, t2, e2⟩ := lf_ne r
      rw [TL.spl_hit (by rfl)]
      show acc :: TL.spl [10] 0 [] r = _
      rw [spl_lf r [] h2 t2 e2, e2, List.append_nil]; rfl
    · obtain ⟨h2, t2, e2⟩ := lf_ne r
      rw [lf_c k e2] at e
      cases e
      have hp : TL.pre [10] (c :: r) = false := by
        show (c == 10 && _) = false
        rw [show (c == 10) = false from by simpa using k]; rfl
      show (if TL.pre [10] (c :: r) = true then _ else TL.spl [10] 0 (acc ++ [c]) r) = _
      rw [hp, if_neg Bool.false_ne_true, spl_lf r (acc ++ [c]) h2 t e2, List.append_assoc]; rfl
theorem lns_lf (l : List Nat) : lns l = lf l := by
  obtain ⟨h, t, e⟩ := lf_ne l
  unfold lns
  rw [spl_lf l [] h t e, e]; rfl
end D
namespace WP
open PySem PySem.Spec PyProof.Rows L2
/-! ### lists of counts and of truths -/
section
variable {σ : L2.St} {H : Hp} {D : Ends} {Q : VK} {td ty tv : TE} {d : Addr} {kvs : List (Key × V)} {i : Int} {v : V}
theorem dnewK (q : ∀ p, H p = none → Q (.ref p) (upd H p (.dK []))) : tDNewK σ H Q := q
theorem din (h : ty σ H fun y H1 => td σ H1 fun x H2 => ∃ a o, x = .ref a ∧ DGet H2 a y o ∧ Q (.bl o.isSome) H2) : tDIn ty td σ H Q := h
theorem dnotin (h : ty σ H fun y H1 => td σ H1 fun x H2 => ∃ a o, x = .ref a ∧ DGet H2 a y o ∧ Q (.bl (!o.isSome)) H2) : tDNotIn ty td σ H Q := h
theorem dput (h : tv σ H fun v H1 => td σ H1 fun x H2 => ty σ H2 fun y H3 => ∃ a H4, x = .ref a ∧ DPut H3 a y v H4 ∧ D.nx σ H4) : sDPut td ty tv D σ H := h
end
theorem tupRev {K : PySem.W.Frag} {te : TE} {σ : L2.St} {H : Hp} {Q : VK} (h : te σ H fun v H1 => ∃ (a : Addr) (xs : List V), v = .ref a ∧ SqL K H1 a xs ∧ ∀ q, H1 q = none → Q (.ref q) (upd H1 q (.tup xs.reverse))) : RT.tTupRev K te σ H Q := h
theorem rev {K : PySem.W.Frag} {ta : TA} {σ : L2.St} {H : Hp} {R : It → Hp → Prop} (h : ta σ H fun vs H1 => ∃ (a : Addr) (xs : List V), vs = [.ref a] ∧ SqL K H1 a xs ∧ R (Itv K a xs.length) H1) : iRev K ta σ H R := h
end WP
namespace ML
open PySem PySem.Spec PyProof.Rows L2
abbrev Tx := List Nat
/-! ### entries -/
inductive Val where
  | non
  | txt (t : Tx)
  | dec (u : Int) (s : Nat)
deriving DecidableEq
structure Row where
  lv : Nat
  nm : Tx
  pc : Option MR.Res
  tm : Nat
  vl : Val
def PicV (K : PySem.W.Frag) (H : Hp) (v : V) : Option MR.Res → Prop
  | none => v = .non
  | some r => ∃ p, v = .ref p ∧ SqT K H p r.vs
def ValV (K : PySem.W.Frag) (H : Hp) (v : V) : Val → Prop
  | .non => v = .non
  | .txt t => v = .str (SX.S t)
  | .dec u s => ∃ p, v = .ref p ∧ SqT K H p (WP.dv u s)
/-- the entry at v -/
def RowAt (K : PySem.W.Frag) (H : Hp) (v : V) (r : Row) : Prop := ∃ a pv vv, v = .ref a ∧ SqT K H a [.int (r.lv : Int), .str (SX.S r.nm), pv, .int (r.tm : Int), vv] ∧ PicV K H pv r.pc ∧ ValV K H vv r.vl
/-- values in a relation, one by one -/
def All2 {α : Type} (R : V → α → Prop) (vs : List V) (rs : List α) : Prop := vs.length = rs.length ∧ ∀ (i : Nat) v r, vs[i]? = some v → rs[i]? = some r → R v r
theorem All2.nil {α : Type} {R : V → α → Prop} : All2 R [] [] := ⟨rfl, fun i v r h _ => by simp at h⟩
theorem All2.mono {α : Type} {R S : V → α → Prop} {vs : List V} {rs : List α} (h : All2 R vs rs) (k : ∀ v r, R v r → S v r) : All2 S vs rs := ⟨h.1, fun i v r a b => k v r (h.2 i v r a b)⟩
theorem All2.app {α : Type} {R : V → α → Prop} {vs us : List V} {rs qs : List α} (a : All2 R vs rs) (b : All2 R us qs) : All2 R (vs ++ us) (rs ++ qs) := by
  refine ⟨by rw [List.length_append, List.length_append, a.1, b.1], fun i v q hv hq => ?_⟩
  have l := a.1
  rcases Nat.lt_or_ge i vs.length with h | h
  · rw [List.getElem?_append_left h] at hv
    rw [List.getElem?_append_left (by omega)] at hq
    exact a.2 i v q hv hq
  · rw [List.getElem?_append_right h] at hv
    rw [List.getElem?_append_right (by omega), ← l] at hq
    exact b.2 _ v q hv hq
theorem All2.get {α : Type} {R : V → α → Prop} {vs : List V} {rs : List α} (h : All2 R vs rs) {i : Nat} {v : V} (hv : vs[i]? = some v) : ∃ r, rs[i]? = some r ∧ R v r := by
  have l := (List.getElem?_eq_some_iff.mp hv).1
  have e := List.getElem?_eq_getElem (l := rs) (i := i) (by rw [← h.1]; exact l)
  exact ⟨_, e, h.2 i v _ hv e⟩
theorem All2.at {α : Type} {R : V → α → Prop} {vs : List V} {rs : List α} (h : All2 R vs rs) {i : Nat} {r : α} (hr : rs[i]? = some r) : ∃ v, vs[i]? = some v ∧ R v r := by
  have l := (List.getElem?_eq_some_iff.mp hr).1
  have e := List.getElem?_eq_getElem (l := vs) (i := i) (by rw [h.1]; exact l)
  exact ⟨_, e, h.2 i _ r e hr⟩
theorem All2.take {α : Type} {R : V → α → Prop} {vs : List V} {rs : List α} (h : All2 R vs rs) (n : Nat) : All2 R (vs.take n) (rs.take n) := by
  refine ⟨by rw [List.length_take, List.length_take, h.1], fun i v r hv hr => ?_⟩
  rw [List.getElem?_take] at hv hr
  by_cases c : i < n
  · rw [if_pos c] at hv hr; exact h.2 i v r hv hr
  · rw [if_neg c] at hv; cases hv
theorem All2.drop {α : Type} {R : V → α → Prop} {vs : List V} {rs : List α} (h : All2 R vs rs) (n : Nat) : All2 R (vs.drop n) (rs.drop n) := by
  refine ⟨by rw [List.length_drop, List.length_drop, h.1], fun i v r hv hr => ?_⟩
  rw [List.getElem?_drop] at hv hr
  exact h.2 _ v r hv hr
/-- entries at values -/
abbrev RwA (K : PySem.W.Frag) (H : Hp) (vs : List V) (rs : List Row) : Prop := All2 (RowAt K H) vs rs
/-! ### what is wrong with an entry -/
end ML
namespace ML
open PySem PySem.Spec PyProof.Rows L2
theorem RwA.last {K : PySem.W.Frag} {H : Hp} {vs : List V} {rs : List Row} (h : RwA K H vs rs) {r : Row} (e : rs.getLast? = some r) : ∃ v, vs.getLast? = some v ∧ RowAt K H v r := by
  have hl := h.1
  rw [List.getLast?_eq_getElem?] at e
  obtain ⟨v, hv, k⟩ := h.at e
  exact ⟨v, by rw [List.getLast?_eq_getElem?, hl]; exact hv, k⟩
end ML
namespace D
open PySem PySem.Spec PyProof.Rows L2
/-! ### programs as values (the engine's), and what they do -/
section
variable {K : PySem.W.Frag} {mg : WP.MG} {H H' : Hp}
/-- a reference: its name, its subscripts -/
structure Rfe where
  nm : List Nat
  sl : List (List Nat × Int)
inductive Exe where
  | num (u : Int) (s : Nat)
  | ref (r : Rfe)
  | neg (e : Exe)
  | bin (op : Nat) (l r : Exe)
def Exe.dp : Exe → Nat
  | .num _ _ => 1
  | .ref _ => 1
  | .neg e => e.dp + 1
  | .bin _ l r => max l.dp r.dp + 1
/-- a source -/
inductive SrE where
  | num (u : Int) (s : Nat)
  | txt (l : List Nat)
  | ref (r : Rfe)
inductive Cde where
  | cmp (op : List Nat) (l r : Exe)
  | txs (op : List Nat) (l r : SrE)
  | dig (r : Rfe)
  | nott (c : Cde)
  | and (l r : Cde)
  | or (l r : Cde)
def Cde.dp : Cde → Nat
  | .nott c => c.dp + 1
  | .and l r => max l.dp r.dp + 1
  | .or l r => max l.dp r.dp + 1
  | _ => 1
/-- the expressions in a condition are at most so deep -/
def Cde.ed (n : Nat) : Cde → Prop
  | .cmp _ l r => l.dp ≤ n ∧ r.dp ≤ n
  | .nott c => c.ed n
  | .and l r => l.ed n ∧ r.ed n
  | .or l r => l.ed n ∧ r.ed n
  | _ => True
end
end D
namespace D
open PySem PySem.Spec PyProof.Rows L2
/-- a word that is drawn -/
def WordOk (w : List Nat) : Prop := 1 ≤ w.length ∧ w.length ≤ 60 ∧ ∀ c ∈ w, 33 ≤ c ∧ c ≤ 126 ∧ c ≠ 37 ∧ c ≠ 39
/-- a piece at fault -/
def piece (i : Nat) (w : List Nat) : List Nat := match i with
  | 0 => w ++ [9]
  | 1 => [39] ++ w ++ [9, 39]
  | 2 => [9, 32]
  | 3 => [39] ++ w ++ [10]
  | 4 => [39] ++ w ++ [39, 39, 10]
  | 5 => [39] ++ w ++ [39] ++ w
  | _ => w ++ [39]
/-! ### texts that are put together of pieces -/
inductive Pc where
  | sp (c : Nat) | wd (w : List Nat) | st (q : List Nat) | bd (i : Nat) (w : List Nat)
def Pc.ren : Pc → List Nat
  | .sp c => [c]
  | .wd w => w
  | .st q => 39 :: (MK.dq q ++ [39])
  | .bd i w => piece i w
def Pc.isSp : Pc → Prop
  | .sp _ => True
  | _ => False
def StrOk (q : List Nat) : Prop := ∀ c ∈ q, 32 ≤ c ∧ c ≤ 126 ∧ c ≠ 37
def Pc.Ok : Pc → Prop
  | .sp c => c = 32 ∨ c = 10
  | .wd w => WordOk w
  | .st q => StrOk q
  | .bd i w => i < 7 ∧ WordOk w
def rend : List Pc → List Nat
  | [] => []
  | x :: P => x.ren ++ rend P
/-- behind what is no space a space stands, or nothing -/
def Adj : List Pc → Prop
  | [] => True
  | x :: P => (x.isSp ∨ ∀ y, P.head? = some y → y.isSp) ∧ Adj P
def nlp (i : Nat) : Nat := if i = 3 ∨ i = 4 then 1 else 0
def Pc.nl : Pc → Nat
  | .sp c => if c = 10 then 1 else 0
  | .bd i _ => nlp i
  | _ => 0
def exps : Nat → List Pc → List (Nat × Tk)
  | _, [] => []
  | r, .wd w :: P => (r, (false, w)) :: exps r P
  | r, .st q :: P => (r, (true, q)) :: exps r P
  | r, .sp c :: P => exps (r + (if c = 10 then 1 else 0)) P
  | r, .bd i _ :: P => exps (r + nlp i) P
def flts : Nat → List Pc → List (Nat × Nat)
  | _, [] => []
  | r, .wd _ :: P => flts r P
  | r, .st _ :: P => flts r P
  | r, .sp c :: P => flts (r + (if c = 10 then 1 else 0)) P
  | r, .bd i _ :: P => ((if i < 3 then 0 else 1), r) :: flts (r + nlp i) P
def nls : List Pc → Nat
  | [] => 0
  | x :: P => x.nl + nls P
theorem rend_app : ∀ (P Q : List Pc), rend (P ++ Q) = rend P ++ rend Q
  | [], _ => rfl
  | x :: P, Q => by show x.ren ++ rend (P ++ Q) = (x.ren ++ rend P) ++ rend Q; rw [rend_app, List.append_assoc]
theorem exps_app : ∀ (r : Nat) (P Q : List Pc), exps r (P ++ Q) = exps r P ++ exps (r + nls P) Q
  | _, [], _ => rfl
  | r, .wd w :: P, Q => by show _ :: exps r (P ++ Q) = _ :: exps r P ++ exps (r + (0 + nls P)) Q; rw [exps_app, Nat.zero_add]; rfl
  | r, .st q :: P, Q => by show _ :: exps r (P ++ Q) = _ :: exps r P ++ exps (r + (0 + nls P)) Q; rw [exps_app, Nat.zero_add]; rfl
  | r, .sp c :: P, Q => by show exps (r + _) (P ++ Q) = exps (r + _) P ++ exps (r + (_ + nls P)) Q; rw [exps_app, Nat.add_assoc]; rfl
  | r, .bd i _ :: P, Q => by show exps (r + nlp i) (P ++ Q) = exps (r + nlp i) P ++ exps (r + (nlp i + nls P)) Q; rw [exps_app, Nat.add_assoc]
theorem flts_app : ∀ (r : Nat) (P Q : List Pc), flts r (P ++ Q) = flts r P ++ flts (r + nls P) Q
  | _, [], _ => rfl
  | r, .wd w :: P, Q => by show flts r (P ++ Q) = flts r P ++ flts (r + (0 + nls P)) Q; rw [flts_app, Nat.zero_add]
  | r, .st q :: P, Q => by show flts r (P ++ Q) = flts r P ++ flts (r + (0 + nls P)) Q; rw [flts_app, Nat.zero_add]
  | r, .sp c :: P, Q => by show flts (r + _) (P ++ Q) = flts (r + _) P ++ flts (r + (_ + nls P)) Q; rw [flts_app, Nat.add_assoc]; rfl
  | r, .bd i _ :: P, Q => by show _ :: flts (r + nlp i) (P ++ Q) = _ :: flts (r + nlp i) P ++ flts (r + (nlp i + nls P)) Q; rw [flts_app, Nat.add_assoc]; rfl
theorem flts_ge : ∀ (r : Nat) (P : List Pc), ∀ f ∈ flts r P, r ≤ f.2
  | _, [], _, h => by cases h
  | r, .wd w :: P, f, h => flts_ge r P f h
  | r, .st q :: P, f, h => flts_ge r P f h
  | r, .sp c :: P, f, h => Nat.le_trans (Nat.le_add_right _ _) (flts_ge (r + _) P f h)
  | r, .bd i _ :: P, f, h => by
    rcases List.mem_cons.mp h with h | h
    · rw [h]; exact Nat.le_refl _
    · exact Nat.le_trans (Nat.le_add_right _ _) (flts_ge (r + _) P f h)
/-! ### which lines are printable -/
theorem prn_app (a b : List Nat) : MW.prn (a ++ b) = (MW.prn a && MW.prn b) := by unfold MW.prn; rw [List.all_append]
theorem prn_of {a : List Nat} (h : ∀ c ∈ a, 32 ≤ c ∧ c ≤ 126 ∧ c ≠ 37) : MW.prn a = true := by
  unfold MW.prn
  rw [List.all_eq_true]
  exact fun c hc => decide_eq_true (h c hc)
theorem dq_mem {q : List Nat} : ∀ c ∈ MK.dq q, c ∈ q := by
  induction q with
  | nil => intro c h; exact h
  | cons x q ih =>
    intro c h
    by_cases e : x = 39
    · subst e
      rw [MK.dq_q] at h
      rcases List.mem_cons.mp h with h | h
      · rw [h]; exact List.mem_cons_self
      · rcases List.mem_cons.mp h with h | h
        · rw [h]; exact List.mem_cons_self
        · exact List.mem_cons_of_mem _ (ih c h)
    · rw [MK.dq_c e] at h
      rcases List.mem_cons.mp h with h | h
      · rw [h]; exact List.mem_cons_self
      · exact List.mem_cons_of_mem _ (ih c h)
/-- what a piece does to the lines behind it: its own part of the first line, and whether a line ends with it -/
structure Shp (x : Pc) (a : List Nat) (n : Bool) : Prop where
  e : x.ren = a ++ (if n = true then [10] else [])
  m : ∀ c ∈ a, c ≠ 10
  k : x.nl = (if n = true then 1 else 0)
theorem WordOk.ne {w : List Nat} (h : WordOk w) : w ≠ [] := fun e => by have := h.1; rw [e] at this; exact absurd this (by decide)
theorem WordOk.c {w : List Nat} (h : WordOk w) : ∀ c ∈ w, c ≠ 32 ∧ c ≠ 39 ∧ c ≠ 10 ∧ (32 ≤ c ∧ c ≤ 126 ∧ c ≠ 37) := fun c hc => by
  obtain ⟨h1, h2, h3, h4⟩ := h.2.2 c hc
  exact ⟨by omega, h4, by omega, by omega, h2, h3⟩
theorem shp {x : Pc} (h : x.Ok) : ∃ a n, Shp x a n := by
  cases x with
  | sp c =>
    rcases h with rfl | rfl
    · exact ⟨[32], false, rfl, by decide, rfl⟩
    · exact ⟨[], true, rfl, by decide, rfl⟩
  | wd w => exact ⟨w, false, (List.append_nil _).symm, fun c hc => (WordOk.c h c hc).2.2.1, rfl⟩
  | st q =>
    refine ⟨39 :: (MK.dq q ++ [39]), false, (List.append_nil _).symm, fun c hc => ?_, rfl⟩
    rcases List.mem_cons.mp hc with e | hc
    · rw [e]; decide
    · rcases List.mem_append.mp hc with hc | hc
      · have := h c (dq_mem c hc); omega
      · rw [List.mem_singleton.mp hc]; decide
  | bd i w =>
    obtain ⟨hi, hw⟩ := h
    have hc := hw.c
    have hm : ∀ (pre post : List Nat), (∀ c ∈ pre, c ≠ 10) → (∀ c ∈ post, c ≠ 10) → ∀ c ∈ pre ++ w ++ post, c ≠ 10 := fun pre post h1 h2 c hx => by
      rcases List.mem_append.mp hx with hx | hx
      · rcases List.mem_append.mp hx with hx | hx
        · exact h1 c hx
        · exact (hc c hx).2.2.1
      · exact h2 c hx
    rcases (show i = 0 ∨ i = 1 ∨ i = 2 ∨ i = 3 ∨ i = 4 ∨ i = 5 ∨ i = 6 by omega) with rfl | rfl | rfl | rfl | rfl | rfl | rfl
    · exact ⟨[] ++ w ++ [9], false, (List.append_nil _).symm, hm [] [9] (by decide) (by decide), rfl⟩
    · exact ⟨[39] ++ w ++ [9, 39], false, (List.append_nil _).symm, hm [39] [9, 39] (by decide) (by decide), rfl⟩
    · exact ⟨[9, 32], false, rfl, by decide, rfl⟩
    · exact ⟨[39] ++ w ++ [], true, by rw [List.append_nil]; rfl, hm [39] [] (by decide) (by decide), rfl⟩
    · refine ⟨[39] ++ w ++ [39, 39], true, ?_, hm [39] [39, 39] (by decide) (by decide), rfl⟩
      show [39] ++ w ++ [39, 39, 10] = [39] ++ w ++ [39, 39] ++ [10]
      rw [List.append_assoc ([39] ++ w)]; rfl
    · refine ⟨[39] ++ w ++ ([39] ++ w), false, by rw [if_neg Bool.false_ne_true, List.append_nil]; show [39] ++ w ++ [39] ++ w = _; rw [List.append_assoc ([39] ++ w)], hm [39] _ (by decide) fun c hx => ?_, rfl⟩
      rcases List.mem_append.mp hx with hx | hx
      · rw [List.mem_singleton.mp hx]; decide
      · exact (hc c hx).2.2.1
    · exact ⟨[] ++ w ++ [39], false, (List.append_nil _).symm, hm [] [39] (by decide) (by decide), rfl⟩
theorem lf_pc {x : Pc} {a : List Nat} {n : Bool} (s : Shp x a n) {P : List Pc} {h : List Nat} {t : List (List Nat)} (e : lf (rend P) = h :: t) : lf (rend (x :: P)) = if n = true then a :: h :: t else (a ++ h) :: t := by
  show lf (x.ren ++ rend P) = _
  rw [s.e]
  cases n with
  | true =>
    rw [if_pos rfl, if_pos rfl, List.append_assoc, lf_app s.m (show lf ([10] ++ rend P) = [] :: lf (rend P) from lf_nl _), List.append_nil, e]
  | false =>
    rw [if_neg Bool.false_ne_true, if_neg Bool.false_ne_true, List.append_nil, lf_app s.m e]
def Pc.flt (r : Nat) : Pc → List (Nat × Nat)
  | .bd i _ => [((if i < 3 then 0 else 1), r)]
  | _ => []
theorem flts_cons (r : Nat) (x : Pc) (P : List Pc) : flts r (x :: P) = x.flt r ++ flts (r + x.nl) P := by
  cases x <;> rfl
theorem prA {x : Pc} {a : List Nat} {n : Bool} (s : Shp x a n) (ok : x.Ok) (r : Nat) : MW.prn a = false ↔ (0, r) ∈ x.flt r := by
  have hin : ∀ c, c ≠ 10 → (c ∈ a ↔ c ∈ x.ren) := fun c hc => by
    rw [s.e, List.mem_append]
    constructor
    · exact .inl
    · rintro (z | z)
      · exact z
      · split at z
        · exact absurd (List.mem_singleton.mp z) hc
        · cases z
  have good : (∀ c ∈ x.ren, c ≠ 10 → 32 ≤ c ∧ c ≤ 126 ∧ c ≠ 37) → MW.prn a = true := fun g => prn_of fun c hc => g c ((hin c (s.m c hc)).mp hc) (s.m c hc)
  have bad : 9 ∈ x.ren → MW.prn a = false := fun g => by
    have h9 := (hin 9 (by decide)).mpr g
    cases e : MW.prn a with
    | false => rfl
    | true =>
      unfold MW.prn at e
      rw [List.all_eq_true] at e
      have := of_decide_eq_true (e 9 h9)
      omega
  cases x with
  | sp c =>
    have g := good fun d hd h10 => by
      rw [show d = c from List.mem_singleton.mp hd] at h10 ⊢
      rcases ok with rfl | rfl
      · decide
      · exact absurd rfl h10
    rw [g]
    exact ⟨fun z => (nomatch z), fun z => nomatch z⟩
  | wd w =>
    have g := good fun d hd _ => (WordOk.c ok d hd).2.2.2
    rw [g]
    exact ⟨fun z => (nomatch z), fun z => nomatch z⟩
  | st q =>
    have g := good fun d hd _ => by
      rcases List.mem_cons.mp hd with e | hd
      · rw [e]; decide
      · rcases List.mem_append.mp hd with hd | hd
        · exact ok d (dq_mem d hd)
        · rw [List.mem_singleton.mp hd]; decide
    rw [g]
    exact ⟨fun z => (nomatch z), fun z => nomatch z⟩
  | bd i w =>
    obtain ⟨hi, hw⟩ := ok
    have hc := hw.c
    have two : ∀ (pre post : List Nat), (∀ c ∈ pre, c ≠ 10 → 32 ≤ c ∧ c ≤ 126 ∧ c ≠ 37) → (∀ c ∈ post, c ≠ 10 → 32 ≤ c ∧ c ≤ 126 ∧ c ≠ 37) → ∀ c ∈ pre ++ w ++ post, c ≠ 10 → 32 ≤ c ∧ c ≤ 126 ∧ c ≠ 37 := fun pre post h1 h2 c hx => by
      rcases List.mem_append.mp hx with hx | hx
      · rcases List.mem_append.mp hx with hx | hx
        · exact h1 c hx
        · exact fun _ => (hc c hx).2.2.2
      · exact h2 c hx
    have q39 : ∀ c ∈ [39], c ≠ 10 → 32 ≤ c ∧ c ≤ 126 ∧ c ≠ 37 := by decide
    rcases (show i = 0 ∨ i = 1 ∨ i = 2 ∨ i = 3 ∨ i = 4 ∨ i = 5 ∨ i = 6 by omega) with rfl | rfl | rfl | rfl | rfl | rfl | rfl
    · rw [bad (List.mem_append.mpr (.inr (List.mem_singleton.mpr rfl)))]; exact ⟨fun _ => List.mem_singleton.mpr rfl, fun _ => rfl⟩
    · rw [bad (List.mem_append.mpr (.inr List.mem_cons_self))]; exact ⟨fun _ => List.mem_singleton.mpr rfl, fun _ => rfl⟩
    · rw [bad List.mem_cons_self]; exact ⟨fun _ => List.mem_singleton.mpr rfl, fun _ => rfl⟩
    · rw [good (two [39] [10] q39 (by decide))]
      exact ⟨fun z => (nomatch z), fun z => nomatch (congrArg Prod.fst (List.mem_singleton.mp z))⟩
    · rw [good (two [39] [39, 39, 10] q39 (by decide))]
      exact ⟨fun z => (nomatch z), fun z => nomatch (congrArg Prod.fst (List.mem_singleton.mp z))⟩
    · rw [good (fun c hx h10 => by
        have hx : c ∈ [39] ++ w ++ [39] ++ w := hx
        rcases List.mem_append.mp hx with hx | hx
        · exact two [39] [39] q39 q39 c hx h10
        · exact (hc c hx).2.2.2)]
      exact ⟨fun z => (nomatch z), fun z => nomatch (congrArg Prod.fst (List.mem_singleton.mp z))⟩
    · rw [good (fun c hx h10 => by
        have hx : c ∈ w ++ [39] := hx
        exact two [] [39] (by decide) q39 c hx h10)]
      exact ⟨fun z => (nomatch z), fun z => nomatch (congrArg Prod.fst (List.mem_singleton.mp z))⟩
theorem flt_row {x : Pc} {r k i : Nat} (h : (k, i) ∈ x.flt r) : i = r := by
  cases x with
  | bd j w => exact congrArg Prod.snd (List.mem_singleton.mp h)
  | sp c => cases h
  | wd w => cases h
  | st q => cases h
/-- the lines that are not printable are those of the faults of kind 0 -/
theorem prn_lines : ∀ (P : List Pc), (∀ x ∈ P, x.Ok) → ∀ (r i : Nat) (l : List Nat), (lf (rend P))[i]? = some l → (MW.prn l = false ↔ (0, r + i) ∈ flts r P)
  | [], _, r, i, l, h => by
    cases i with
    | zero => cases h; exact ⟨fun z => (nomatch z), fun z => nomatch z⟩
    | succ i => cases h
  | x :: P, ok, r, i, l, hl => by
    obtain ⟨a, n, s⟩ := shp (ok x List.mem_cons_self)
    obtain ⟨h, t, e⟩ := lf_ne (rend P)
    have okx := ok x List.mem_cons_self
    have ih := prn_lines P fun y hy => ok y (List.mem_cons_of_mem _ hy)
    rw [lf_pc s e] at hl
    rw [flts_cons, s.k, List.mem_append]
    cases n with
    | true =>
      rw [if_pos rfl] at hl ⊢
      cases i with
      | zero =>
        cases hl
        rw [prA s okx r]
        exact ⟨.inl, fun z => z.elim id fun z => absurd (flts_ge _ P _ z) (by show ¬ r + 1 ≤ r + 0; omega)⟩
      | succ i =>
        have hl : (h :: t)[i]? = some l := by simpa using hl
        rw [← e] at hl
        rw [ih (r + 1) i l hl, show r + 1 + i = r + (i + 1) by omega]
        exact ⟨.inr, fun z => z.elim (fun z => absurd (flt_row z) (by omega)) id⟩
    | false =>
      rw [if_neg Bool.false_ne_true] at hl ⊢
      cases i with
      | zero =>
        cases hl
        have h0 := ih r 0 h (by rw [e]; rfl)
        rw [prn_app, Bool.and_eq_false_iff, prA s okx r, h0]; rfl
      | succ i =>
        have hl : t[i]? = some l := by simpa using hl
        rw [ih r (i + 1) l (by rw [e]; simpa using hl)]
        exact ⟨.inr, fun z => z.elim (fun z => absurd (flt_row z) (by omega)) id⟩
/-! ### the tokens of the lines, where all lines are printable -/
structure Outs (r : Nat) (P : List Pc) (os : List (Option (List Tk))) : Prop where
  l : os.length = (lf (rend P)).length
  g : ∀ (i : Nat) (x : List Nat) (o : Option (List Tk)), (lf (rend P))[i]? = some x → os[i]? = some o → RunS x o
  n : ∀ i : Nat, os[i]? = some none ↔ ∃ k, (k, r + i) ∈ flts r P
  t : ∀ ts : List (List Tk), os = ts.map some → rowsF r ts = exps r P
theorem head_sp {x : Pc} {P : List Pc} (hx : ¬ x.isSp) (adj : Adj (x :: P)) (ok : ∀ y ∈ P, y.Ok) {h : List Nat} {t : List (List Nat)} (e : lf (rend P) = h :: t) : h = [] ∨ ∃ t, h = 32 :: t := by
  cases P with
  | nil => cases e; exact .inl rfl
  | cons y P =>
    have hy := (adj.1.resolve_left hx) y rfl
    have oy := ok y List.mem_cons_self
    cases y with
    | sp c =>
      rcases oy with rfl | rfl
      · obtain ⟨h2, t2, e2⟩ := lf_ne (rend P)
        have : lf (rend (.sp 32 :: P)) = (32 :: h2) :: t2 := lf_c (by decide) e2
        rw [this] at e
        cases e
        exact .inr ⟨_, rfl⟩
      · have : lf (rend (.sp 10 :: P)) = [] :: lf (rend P) := lf_nl _
        rw [this] at e
        cases e
        exact .inl rfl
    | wd w => exact hy.elim
    | st q => exact hy.elim
    | bd i w => exact hy.elim
/-- a token before the rest of a line -/
theorem Outs.tok {r : Nat} {x : Pc} {P : List Pc} {o0 : Option (List Tk)} {os : List (Option (List Tk))} {h a : List Nat} {t : List (List Nat)} {k : Tk} (I : Outs r P (o0 :: os)) (e : lf (rend P) = h :: t) (e2 : lf (rend (x :: P)) = (a ++ h) :: t)
    (hr : RunS h o0 → RunS (a ++ h) (o0.map (k :: ·))) (hf : flts r (x :: P) = flts r P) (he : exps r (x :: P) = (r, k) :: exps r P) : Outs r (x :: P) (o0.map (k :: ·) :: os) := by
  refine ⟨by rw [e2, List.length_cons, List.length_cons]; have := I.l; rw [e, List.length_cons, List.length_cons] at this; exact this, fun i y o hy ho => ?_, fun i => ?_, fun ts hts => ?_⟩
  · rw [e2] at hy
    cases i with
    | zero => cases hy; cases ho; exact hr (I.g 0 h o0 (by rw [e]; rfl) rfl)
    | succ i => exact I.g (i + 1) y o (by rw [e]; simpa using hy) (by simpa using ho)
  · rw [hf, ← I.n i]
    cases i with
    | zero => cases o0 <;> simp
    | succ i => simp
  · cases ts with
    | nil => cases hts
    | cons t0 ts =>
      injection hts with h1 h2
      cases o0 with
      | none => cases h1
      | some t0' =>
        have h1 := Option.some.inj h1
        have := I.t (t0' :: ts) (by rw [h2]; rfl)
        rw [he, ← this, ← h1]; rfl
theorem Outs.bad {r i : Nat} {w : List Nat} {P : List Pc} {o0 : Option (List Tk)} {os : List (Option (List Tk))} {h a : List Nat} {t : List (List Nat)} (I : Outs r P (o0 :: os)) (e : lf (rend P) = h :: t) (e2 : lf (rend (.bd i w :: P)) = (a ++ h) :: t) (hi : nlp i = 0)
    (hr : RunS (a ++ h) none) : Outs r (.bd i w :: P) (none :: os) := by
  have hf : flts r (.bd i w :: P) = ((if i < 3 then 0 else 1), r) :: flts r P := by show _ :: flts (r + nlp i) P = _; rw [hi]; rfl
  refine ⟨by rw [e2, List.length_cons, List.length_cons]; have := I.l; rw [e, List.length_cons, List.length_cons] at this; exact this, fun j y o hy ho => ?_, fun j => ?_, fun ts hts => ?_⟩
  · rw [e2] at hy
    cases j with
    | zero => cases hy; cases ho; exact hr
    | succ j => exact I.g (j + 1) y o (by rw [e]; simpa using hy) (by simpa using ho)
  · rw [hf]
    cases j with
    | zero => exact ⟨fun _ => ⟨_, List.mem_cons_self⟩, fun _ => rfl⟩
    | succ j =>
      have := I.n (j + 1)
      rw [List.getElem?_cons_succ] at this ⊢
      rw [this]
      constructor
      · rintro ⟨k, hk⟩; exact ⟨k, List.mem_cons_of_mem _ hk⟩
      · rintro ⟨k, hk⟩
        rcases List.mem_cons.mp hk with z | z
        · have := congrArg Prod.snd z
          have : r + (j + 1) = r := this
          omega
        · exact ⟨k, z⟩
  · cases ts with
    | nil => cases hts
    | cons t0 ts => injection hts with h1 h2; cases h1
theorem Outs.line {r : Nat} {x : Pc} {P : List Pc} {o : Option (List Tk)} {os : List (Option (List Tk))} {a : List Nat} (I : Outs (r + 1) P os) (e2 : lf (rend (x :: P)) = a :: lf (rend P)) (hr : RunS a o)
    (hx : o = some [] ∧ flts r (x :: P) = flts (r + 1) P ∧ exps r (x :: P) = exps (r + 1) P ∨ o = none ∧ ∃ k, flts r (x :: P) = (k, r) :: flts (r + 1) P) : Outs r (x :: P) (o :: os) := by
  have up : ∀ i, (∃ k, (k, r + (i + 1)) ∈ flts (r + 1) P) ↔ (os[i]? = some none) := fun i => by
    rw [I.n i, show r + 1 + i = r + (i + 1) by omega]
  refine ⟨by rw [e2, List.length_cons, List.length_cons, I.l], fun i y o' hy ho => ?_, fun i => ?_, fun ts hts => ?_⟩
  · rw [e2] at hy
    cases i with
    | zero => cases hy; cases ho; exact hr
    | succ i => exact I.g i y o' (by simpa using hy) (by simpa using ho)
  · cases i with
    | zero =>
      rcases hx with ⟨rfl, hf, _⟩ | ⟨rfl, k, hf⟩
      · rw [hf]
        refine ⟨fun z => (by cases z), fun ⟨k, z⟩ => ?_⟩
        have := flts_ge (r + 1) P _ z
        exact absurd this (by show ¬ r + 1 ≤ r + 0; omega)
      · rw [hf]
        exact ⟨fun _ => ⟨k, List.mem_cons_self⟩, fun _ => rfl⟩
    | succ i =>
      rw [List.getElem?_cons_succ, ← up i]
      rcases hx with ⟨rfl, hf, _⟩ | ⟨rfl, k, hf⟩
      · rw [hf]
      · rw [hf]
        constructor
        · rintro ⟨k', hk⟩; exact ⟨k', List.mem_cons_of_mem _ hk⟩
        · rintro ⟨k', hk⟩
          rcases List.mem_cons.mp hk with z | z
          · have : r + (i + 1) = r := congrArg Prod.snd z
            omega
          · exact ⟨k', z⟩
  · cases ts with
    | nil => cases hts
    | cons t0 ts =>
      injection hts with h1 h2
      rcases hx with ⟨rfl, _, he⟩ | ⟨rfl, _⟩
      · have h1 := Option.some.inj h1
        rw [he, ← I.t ts h2, ← h1]; rfl
      · cases h1
theorem outs : ∀ (P : List Pc), (∀ x ∈ P, x.Ok) → Adj P → ∀ r : Nat, (∀ f ∈ flts r P, f.1 ≠ 0) → ∃ os, Outs r P os
  | [], _, _, r, _ => by
    refine ⟨[some []], rfl, fun i x o hx ho => ?_, fun i => ?_, fun ts h => ?_⟩
    · cases i with
      | zero => cases hx; cases ho; exact .nil
      | succ i => cases hx
    · cases i with
      | zero => exact ⟨fun z => (by cases z), fun ⟨k, z⟩ => nomatch z⟩
      | succ i => exact ⟨fun z => (by cases z), fun ⟨k, z⟩ => nomatch z⟩
    · cases ts with
      | nil => cases h
      | cons t ts =>
        injection h with h1 h2
        cases ts with
        | nil => cases h1; rfl
        | cons _ _ => cases h2
  | x :: P, ok, adj, r, nf => by
    obtain ⟨h, t, e⟩ := lf_ne (rend P)
    have ok2 : ∀ y ∈ P, y.Ok := fun y hy => ok y (List.mem_cons_of_mem _ hy)
    have okx := ok x List.mem_cons_self
    have nf2 : ∀ f ∈ flts (r + x.nl) P, f.1 ≠ 0 := fun f hf => nf f (by rw [flts_cons]; exact List.mem_append.mpr (.inr hf))
    obtain ⟨os, I⟩ := outs P ok2 adj.2 (r + x.nl) nf2
    obtain ⟨o0, os', rfl⟩ : ∃ o0 os', os = o0 :: os' := by
      cases os with
      | nil => have := I.l; rw [e] at this; cases this
      | cons o0 os' => exact ⟨_, _, rfl⟩
    cases x with
    | sp c =>
      rcases okx with rfl | rfl
      · have e2 : lf (rend (.sp 32 :: P)) = ([32] ++ h) :: t := lf_c (by decide) e
        have hf : flts r (.sp 32 :: P) = flts r P := rfl
        have I : Outs r P (o0 :: os') := I
        refine ⟨o0 :: os', ⟨by rw [e2, List.length_cons, List.length_cons]; have := I.l; rw [e, List.length_cons, List.length_cons] at this; exact this, fun i y o hy ho => ?_, fun i => by rw [hf]; exact I.n i, fun ts hts => I.t ts hts⟩⟩
        rw [e2] at hy
        cases i with
        | zero => cases hy; cases ho; exact (I.g 0 h o0 (by rw [e]; rfl) rfl).sp
        | succ i => exact I.g (i + 1) y o (by rw [e]; simpa using hy) ho
      · exact ⟨_, I.line (x := .sp 10) (lf_nl _) .nil (.inl ⟨rfl, rfl, rfl⟩)⟩
    | wd w =>
      have hs := head_sp (x := .wd w) (fun z => z) adj ok2 e
      have hw := WordOk.c okx
      exact ⟨_, Outs.tok (a := w) I e (lf_app (fun c hc => (hw c hc).2.2.1) e) (fun z => z.word (WordOk.ne okx) (fun c hc => ⟨(hw c hc).1, (hw c hc).2.1⟩) hs) rfl rfl⟩
    | st q =>
      have hs := head_sp (x := .st q) (fun z => z) adj ok2 e
      have hn : ∀ c ∈ 39 :: (MK.dq q ++ [39]), c ≠ 10 := fun c hc => by
        rcases List.mem_cons.mp hc with e | hc
        · rw [e]; decide
        · rcases List.mem_append.mp hc with hc | hc
          · have := okx c (dq_mem c hc); omega
          · rw [List.mem_singleton.mp hc]; decide
      refine ⟨_, Outs.tok (a := 39 :: (MK.dq q ++ [39])) I e (lf_app hn e) (fun z => ?_) rfl rfl⟩
      have := RunS.str (q := q) hs z
      rw [show 39 :: (MK.dq q ++ [39]) ++ h = 39 :: (MK.dq q ++ 39 :: h) by simp]
      exact this
    | bd i w =>
      obtain ⟨hi, hw⟩ := okx
      have hc := hw.c
      have hq : ∀ c ∈ w, c ≠ 39 := fun c h => (hc c h).2.1
      have h3 : ¬ i < 3 := fun z => nf (0, r) (by show (0, r) ∈ ((if i < 3 then 0 else 1), r) :: _; rw [if_pos z]; exact List.mem_cons_self) rfl
      rcases (show i = 3 ∨ i = 4 ∨ i = 5 ∨ i = 6 by omega) with rfl | rfl | rfl | rfl
      · have e2 : lf (rend (.bd 3 w :: P)) = ([39] ++ w) :: lf (rend P) := by
          show lf ([39] ++ w ++ [10] ++ rend P) = _
          rw [show [39] ++ w ++ [10] ++ rend P = ([39] ++ w) ++ (10 :: rend P) by simp, lf_app (a := [39] ++ w) (fun c hx => by
            rcases List.mem_append.mp hx with hx | hx
            · rw [List.mem_singleton.mp hx]; decide
            · exact (hc c hx).2.2.1) (lf_nl (rend P)), List.append_nil]
        exact ⟨_, I.line (x := .bd 3 w) e2 (RunS.bad1 (sEnd_no hq)) (.inr ⟨rfl, 1, rfl⟩)⟩
      · have e2 : lf (rend (.bd 4 w :: P)) = (39 :: (w ++ [39, 39])) :: lf (rend P) := by
          show lf ([39] ++ w ++ [39, 39, 10] ++ rend P) = _
          rw [show [39] ++ w ++ [39, 39, 10] ++ rend P = (39 :: (w ++ [39, 39])) ++ (10 :: rend P) by simp, lf_app (fun c hx => by
            rcases List.mem_cons.mp hx with hx | hx
            · rw [hx]; decide
            · rcases List.mem_append.mp hx with hx | hx
              · exact (hc c hx).2.2.1
              · exact (show ∀ c ∈ [39, 39], c ≠ 10 by decide) c hx) (lf_nl (rend P)), List.append_nil]
        exact ⟨_, I.line (x := .bd 4 w) e2 (RunS.bad1 fun n => by rw [sEnd_skip hq]; rfl) (.inr ⟨rfl, 1, rfl⟩)⟩
      · obtain ⟨c0, w', ew⟩ := List.exists_cons_of_ne_nil hw.ne
        have hc0 := hc c0 (by rw [ew]; exact List.mem_cons_self)
        refine ⟨_, Outs.bad (i := 5) (a := [39] ++ w ++ [39] ++ w) I e (lf_app (fun c hx => ?_) e) rfl ?_⟩
        · rcases List.mem_append.mp hx with hx | hx
          · rcases List.mem_append.mp hx with hx | hx
            · rcases List.mem_append.mp hx with hx | hx
              · rw [List.mem_singleton.mp hx]; decide
              · exact (hc c hx).2.2.1
            · rw [List.mem_singleton.mp hx]; decide
          · exact (hc c hx).2.2.1
        · have := RunS.bad2 (w := w) (s := w' ++ h) hq hc0.2.1 hc0.1
          rw [show [39] ++ w ++ [39] ++ w ++ h = 39 :: (w ++ 39 :: c0 :: (w' ++ h)) by conv => lhs; rw [show [39] ++ w ++ [39] ++ w ++ h = 39 :: (w ++ 39 :: (w ++ h)) by simp, show w ++ h = c0 :: (w' ++ h) by rw [ew]; rfl]]
          exact this
      · refine ⟨_, Outs.bad (i := 6) (a := w ++ [39]) I e (lf_app (fun c hx => ?_) e) rfl ?_⟩
        · rcases List.mem_append.mp hx with hx | hx
          · exact (hc c hx).2.2.1
          · rw [List.mem_singleton.mp hx]; decide
        · have := RunS.bad3 (s := h) hw.ne fun c hx => ⟨(hc c hx).1, (hc c hx).2.1⟩
          rw [show w ++ [39] ++ h = w ++ 39 :: h by simp]
          exact this
def RtAt (K : PySem.W.Frag) (H : Hp) (as : List Addr) (ts : List (Nat × Tk)) : Prop := as.length = ts.length ∧ ∀ (i : Nat) (a : Addr) (t : Nat × Tk), as[i]? = some a → ts[i]? = some t → SqT K H a (t.2.vs (t.1 : Int))
/-! ### putting together -/
def EndSp (P : List Pc) : Prop := ∀ x, P.getLast? = some x → x.isSp
def spc (l : List Nat) : List Pc := l.map Pc.sp
theorem rend_spc : ∀ l : List Nat, rend (spc l) = l
  | [] => rfl
  | c :: l => by show [c] ++ rend (spc l) = _; rw [rend_spc]; rfl
theorem adj_app : ∀ (P Q : List Pc), Adj P → Adj Q → (EndSp P ∨ ∀ y, Q.head? = some y → y.isSp) → Adj (P ++ Q)
  | [], _, _, h, _ => h
  | x :: P, Q, h, hq, he => by
    refine ⟨?_, adj_app P Q h.2 hq ?_⟩
    · cases P with
      | nil =>
        rcases he with he | he
        · exact .inl (he x rfl)
        · exact .inr fun y hy => he y hy
      | cons z P =>
        rcases h.1 with a | a
        · exact .inl a
        · exact .inr fun y hy => a y hy
    · cases P with
      | nil => exact .inl fun y hy => by cases hy
      | cons z P => exact he.imp (fun a y hy => a y (by rw [List.getLast?_cons_cons]; exact hy)) id
theorem adj_spc : ∀ l : List Nat, Adj (spc l)
  | [] => True.intro
  | c :: l => ⟨.inl True.intro, adj_spc l⟩
theorem head_spc {l : List Nat} : ∀ y, (spc l).head? = some y → y.isSp := by
  cases l with
  | nil => intro y h; cases h
  | cons c l => intro y h; cases h; exact True.intro
theorem end_spc {P : List Pc} {l : List Nat} (h : l ≠ []) : EndSp (P ++ spc l) := by
  intro x hx
  obtain ⟨l', c, rfl⟩ := List.eq_nil_or_concat l |>.resolve_left h
  have : spc (l'.concat c) = spc l' ++ [Pc.sp c] := by unfold spc; rw [List.concat_eq_append, List.map_append]; rfl
  rw [this, ← List.append_assoc, List.getLast?_concat] at hx
  cases hx
  exact True.intro
theorem ok_spc {l : List Nat} (h : ∀ c ∈ l, c = 32 ∨ c = 10) : ∀ x ∈ spc l, x.Ok := fun x hx => by
  obtain ⟨c, hc, rfl⟩ := List.mem_map.mp hx
  exact h c hc
theorem exps_spc : ∀ (r : Nat) (l : List Nat), exps r (spc l) = []
  | _, [] => rfl
  | r, c :: l => exps_spc _ l
theorem flts_spc : ∀ (r : Nat) (l : List Nat), flts r (spc l) = []
  | _, [] => rfl
  | r, c :: l => flts_spc _ l
theorem exps_snocS (r : Nat) (P : List Pc) (l : List Nat) : exps r (P ++ spc l) = exps r P := by rw [exps_app, exps_spc, List.append_nil]
theorem flts_snocS (r : Nat) (P : List Pc) (l : List Nat) : flts r (P ++ spc l) = flts r P := by rw [flts_app, flts_spc, List.append_nil]
theorem nls_cnt : ∀ (P : List Pc), (∀ x ∈ P, x.Ok) → ((rend P).filter (· == 10)).length = nls P
  | [], _ => rfl
  | x :: P, h => by
    obtain ⟨a, n, s⟩ := shp (h x List.mem_cons_self)
    show ((x.ren ++ rend P).filter (· == 10)).length = x.nl + nls P
    rw [List.filter_append, List.length_append, nls_cnt P fun y hy => h y (List.mem_cons_of_mem _ hy), s.e, s.k, List.filter_append, List.length_append]
    have h0 : a.filter (· == 10) = [] := List.filter_eq_nil_iff.mpr fun c hc => by simpa using s.m c hc
    rw [h0]
    cases n <;> rfl
theorem ren_pos {x : Pc} (h : x.Ok) : 1 ≤ x.ren.length := by
  cases x with
  | sp c => exact Nat.le_refl _
  | wd w => exact h.1
  | st q => show 1 ≤ (39 :: _).length; rw [List.length_cons]; omega
  | bd i w =>
    obtain ⟨hi, hw⟩ := h
    have := hw.1
    rcases (show i = 0 ∨ i = 1 ∨ i = 2 ∨ i = 3 ∨ i = 4 ∨ i = 5 ∨ i = 6 by omega) with rfl | rfl | rfl | rfl | rfl | rfl | rfl <;> (simp only [Pc.ren, piece, List.length_append, List.length_cons, List.length_nil]; omega)
theorem ex_len : ∀ (r : Nat) (P : List Pc), (∀ x ∈ P, x.Ok) → (exps r P).length ≤ (rend P).length ∧ (flts r P).length ≤ (rend P).length
  | _, [], _ => ⟨Nat.le_refl _, Nat.le_refl _⟩
  | r, x :: P, h => by
    have hp := ren_pos (h x List.mem_cons_self)
    have ok := fun y hy => h y (List.mem_cons_of_mem _ hy)
    show _ ≤ (x.ren ++ rend P).length ∧ _ ≤ (x.ren ++ rend P).length
    rw [List.length_append]
    cases x with
    | sp c => have := ex_len (r + (if c = 10 then 1 else 0)) P ok; exact ⟨by show (exps _ P).length ≤ _; omega, by show (flts _ P).length ≤ _; omega⟩
    | wd w => have := ex_len r P ok; exact ⟨by show (exps r P).length + 1 ≤ _; omega, by show (flts r P).length ≤ _; omega⟩
    | st q => have := ex_len r P ok; exact ⟨by show (exps r P).length + 1 ≤ _; omega, by show (flts r P).length ≤ _; omega⟩
    | bd i w => have := ex_len (r + nlp i) P ok; exact ⟨by show (exps _ P).length ≤ _; omega, by show (flts _ P).length + 1 ≤ _; omega⟩
end D
namespace D
open PySem PySem.Spec PyProof.Rows L2
/-! ### a cursor over tokens -/
structure Cu where
  dx : Addr
  L : Addr
  as : List Addr
  rs : List (Nat × Tk)
def nxt (rs : List (Nat × Tk)) (at' : Nat) (b : Bool) : List Nat := match rs[at']? with
  | some (_, (k, w)) => if k = b then w else []
  | none => []
def rowC (rs : List (Nat × Tk)) (at' : Nat) : Nat := if rs = [] then 1 else ((rs[min at' (rs.length - 1)]?).map Prod.fst).getD 1
def rowB (rs : List (Nat × Tk)) (at' : Nat) : Nat := if 0 < at' then ((rs[at' - 1]?).map Prod.fst).getD 1 else 1
def kWORD : List Nat := [119, 111, 114, 100]
def kSTRG : List Nat := [115, 116, 114, 105, 110, 103]
def kENDW : List Nat := [101, 110, 100]
def kVALU : List Nat := [118, 97, 108, 117, 101]
def rsn (rs : List (Nat × Tk)) (at' : Nat) (w : List Nat) : List Nat := if at' = rs.length then kENDW else w
/-- so many words are accepted -/
def mtc (rs : List (Nat × Tk)) : Nat → List (List Nat) → Nat
  | _, [] => 0
  | a, w :: ws => if nxt rs a false = w then mtc rs (a + 1) ws + 1 else 0
def kwd (b : Bool) : List Nat := if b = true then kSTRG else kWORD
theorem nxt_lt {rs : List (Nat × Tk)} {a : Nat} {b : Bool} (h : nxt rs a b ≠ []) : a < rs.length := by
  unfold nxt at h
  cases e : rs[a]? with
  | none => rw [e] at h; exact absurd rfl h
  | some x => exact (List.getElem?_eq_some_iff.mp e).1
theorem nxt_end {rs : List (Nat × Tk)} {b : Bool} : nxt rs rs.length b = [] := by
  unfold nxt
  rw [List.getElem?_eq_none (Nat.le_refl _)]
/-! ### texts without a bound of 60 -/
structure TxO (P : List Pc) (n : Nat) : Prop where
  ok : ∀ x ∈ P, x.Ok
  adj : Adj P
  len : (rend P).length ≤ n
  st : ∀ q, Pc.st q ∈ P → q.length ≤ 1000
theorem TxO.snoc {P : List Pc} {n m : Nat} (t : TxO P n) (en : EndSp P) {x : Pc} (ox : x.Ok) (hs : ∀ q, x = .st q → q.length ≤ 1000) (hm : n + x.ren.length ≤ m) : TxO (P ++ [x]) m := by
  refine ⟨fun y hy => ?_, adj_app P [x] t.adj ⟨.inr fun y hy => (by cases hy), True.intro⟩ (.inl en), ?_, fun q hq => ?_⟩
  · rcases List.mem_append.mp hy with hy | hy
    · exact t.ok y hy
    · rw [List.mem_singleton.mp hy]; exact ox
  · have h2 := t.len
    rw [rend_app, List.length_append]
    show _ + (x.ren ++ []).length ≤ _
    rw [List.append_nil]; omega
  · rcases List.mem_append.mp hq with hq | hq
    · exact t.st q hq
    · exact hs q (List.mem_singleton.mp hq).symm
theorem TxO.spaces {P : List Pc} {n m : Nat} (t : TxO P n) {l : List Nat} (hl : ∀ c ∈ l, c = 32 ∨ c = 10) (hm : n + l.length ≤ m) : TxO (P ++ spc l) m := by
  refine ⟨fun y hy => ?_, adj_app P _ t.adj (adj_spc l) (.inr head_spc), ?_, fun q hq => ?_⟩
  · rcases List.mem_append.mp hy with hy | hy
    · exact t.ok y hy
    · exact ok_spc hl y hy
  · have := t.len
    rw [rend_app, rend_spc, List.length_append]; omega
  · rcases List.mem_append.mp hq with hq | hq
    · exact t.st q hq
    · obtain ⟨c, _, e⟩ := List.mem_map.mp hq
      cases e
theorem TxO.nil {l : List Nat} (hl : ∀ c ∈ l, c = 32 ∨ c = 10) {n : Nat} (hm : l.length ≤ n) : TxO (spc l) n :=
  ⟨ok_spc hl, adj_spc l, by rw [rend_spc]; exact hm, fun q hq => by obtain ⟨c, _, e⟩ := List.mem_map.mp hq; cases e⟩
theorem exps_ok : ∀ (r : Nat) (P : List Pc), (∀ x ∈ P, x.Ok) → (∀ q, Pc.st q ∈ P → q.length ≤ 1000) → ∀ t ∈ exps r P, t.2.2.length ≤ 1000 ∧ ∀ c ∈ t.2.2, c < 128
  | _, [], _, _, _, h => by cases h
  | r, x :: P, ok, st, t, h => by
    have ok2 := fun y hy => ok y (List.mem_cons_of_mem _ hy)
    have st2 := fun q hq => st q (List.mem_cons_of_mem _ hq)
    have okx := ok x List.mem_cons_self
    cases x with
    | sp c => exact exps_ok _ P ok2 st2 t h
    | bd i w => exact exps_ok _ P ok2 st2 t h
    | wd w =>
      rcases List.mem_cons.mp h with e | h
      · rw [e]; exact ⟨Nat.le_trans okx.2.1 (by decide), fun c hc => Nat.lt_of_le_of_lt (okx.2.2 c hc).2.1 (by decide)⟩
      · exact exps_ok _ P ok2 st2 t h
    | st q =>
      rcases List.mem_cons.mp h with e | h
      · rw [e]; exact ⟨st q List.mem_cons_self, fun c hc => Nat.lt_of_le_of_lt (okx c hc).2.1 (by decide)⟩
      · exact exps_ok _ P ok2 st2 t h
theorem rt_map {K : PySem.W.Frag} {H H' : Hp} {as : List Addr} {rs : List (Nat × Tk)} (h : RtAt K H as rs) (e : ∀ a xs, SqT K H a xs → SqT K H' a xs) : RtAt K H' as rs := ⟨h.1, fun i a t ha ht => e _ _ (h.2 i a t ha ht)⟩
theorem rt_snoc {K : PySem.W.Frag} {H : Hp} {as : List Addr} {rs : List (Nat × Tk)} {a : Addr} {t : Nat × Tk} (h : RtAt K H as rs) (z : SqT K H a (t.2.vs (t.1 : Int))) : RtAt K H (as ++ [a]) (rs ++ [t]) := by
  refine ⟨by rw [List.length_append, List.length_append, h.1]; rfl, fun i b u hb hu => ?_⟩
  rcases Nat.lt_or_ge i as.length with q | q
  · rw [List.getElem?_append_left q] at hb
    rw [List.getElem?_append_left (by rw [← h.1]; exact q)] at hu
    exact h.2 i b u hb hu
  · rw [List.getElem?_append_right q] at hb
    rw [List.getElem?_append_right (by rw [← h.1]; exact q), ← h.1] at hu
    cases e : i - as.length with
    | zero => rw [e] at hb hu; cases hb; cases hu; exact z
    | succ j => rw [e] at hb; cases hb
/-- a list of tokens -/
def RtL (K : PySem.W.Frag) (H : Hp) (L : Addr) (rs : List (Nat × Tk)) : Prop := ∃ as : List Addr, H L = some (.lst (as.map V.ref)) ∧ RtAt K H as rs
theorem RtL.same {K : PySem.W.Frag} {H H' : Hp} {L : Addr} {rs : List (Nat × Tk)} (h : RtL K H L rs) (e : Same H H') : RtL K H' L rs := by
  obtain ⟨as, g, r⟩ := h
  exact ⟨as, e _ _ g, rt_map r fun _ _ z => WP.sqt e z⟩
theorem RtL.sx {K : PySem.W.Frag} {H H' : Hp} {d L : Addr} {ys : List V} {rs : List (Nat × Tk)} (h : RtL K H L rs) (hyd : H d = some (.lst ys)) (n : L ≠ d) (e : WP.Sx d H H') : RtL K H' L rs := by
  obtain ⟨as, g, r⟩ := h
  exact ⟨as, e _ _ n g, rt_map r fun _ _ z => WP.sqtX e hyd z⟩
theorem RtL.sm {K : PySem.W.Frag} {H H' : Hp} {L : Addr} {rs : List (Nat × Tk)} (h : RtL K H L rs) (e : WP.Sm H H') : RtL K H' L rs := by
  obtain ⟨as, g, r⟩ := h
  refine ⟨as, e.k _ _ g WP.nt_lst, rt_map r fun _ _ z => ?_⟩
  rcases z with (q | ⟨ob, q⟩) | q
  · exact .inl (.inl (e.k _ _ q WP.nt_tup))
  · exact .inl (.inr ⟨ob, e.k _ _ q WP.nt_frz⟩)
  · exact .inr q
theorem RtL.app {K : PySem.W.Frag} {H : Hp} {L a : Addr} {xs : List V} {as : List Addr} {rs : List (Nat × Tk)} {t : Nat × Tk} (g : H L = some (.lst xs)) (r : RtAt K H as rs) (z : SqT K H a (t.2.vs (t.1 : Int))) : RtL K (upd H L (.lst ((as ++ [a]).map V.ref))) L (rs ++ [t]) :=
  ⟨as ++ [a], upd_same, rt_map (rt_snoc r z) fun _ _ q => WP.sqtX (d := L) WP.Sx.upd g q⟩
theorem RtL.last {K : PySem.W.Frag} {H : Hp} {L : Addr} {rs : List (Nat × Tk)} (h : RtL K H L rs) (hl : 0 < rs.length) : ∃ xs b t, SqL K H L xs ∧ atI xs (-1) = some (.ref b) ∧ SqT K H b (t.2.vs (t.1 : Int)) ∧ rs[rs.length - 1]? = some t := by
  obtain ⟨as, g, r⟩ := h
  rcases List.eq_nil_or_concat as with rfl | ⟨as', x, rfl⟩
  · have := r.1; rw [← this] at hl; exact absurd hl (by decide)
  · rw [List.concat_eq_append] at g r
    have hL : rs.length = as'.length + 1 := by rw [← r.1, List.length_append]; rfl
    obtain ⟨t, ht⟩ : ∃ t, rs[rs.length - 1]? = some t := ⟨_, List.getElem?_eq_getElem (by omega)⟩
    refine ⟨_, x, t, SqL.of g, ?_, r.2 as'.length x t ?_ (by rw [show as'.length = rs.length - 1 by omega]; exact ht), ht⟩
    · rw [List.map_append]; exact atI_last _ _
    · rw [List.getElem?_append_right (Nat.le_refl _), Nat.sub_self]; rfl
theorem RtL.len {K : PySem.W.Frag} {H : Hp} {L : Addr} {rs : List (Nat × Tk)} (h : RtL K H L rs) : ∃ xs, SqL K H L xs ∧ xs.length = rs.length := by
  obtain ⟨as, g, r⟩ := h
  exact ⟨_, SqL.of g, by rw [List.length_map, r.1]⟩
theorem RtL.tok {K : PySem.W.Frag} {H : Hp} {L : Addr} {rs : List (Nat × Tk)} (h : RtL K H L rs) {i : Nat} {t : Nat × Tk} (ht : rs[i]? = some t) : ∃ xs b, SqL K H L xs ∧ xs[i]? = some (.ref b) ∧ SqT K H b (t.2.vs (t.1 : Int)) := by
  obtain ⟨as, g, r⟩ := h
  have hi : i < as.length := by rw [r.1]; exact (List.getElem?_eq_some_iff.mp ht).1
  exact ⟨_, as[i], SqL.of g, by rw [List.getElem?_map, List.getElem?_eq_getElem hi]; rfl, r.2 i _ t (List.getElem?_eq_getElem hi) ht⟩
/-! ### words of integers and decimals -/
def intW (l : List Nat) : Bool := decide (l.length ≤ 18) && (decide (l = [48]) || !decide (l.headD 0 = 48))
def numB (l : List Nat) : Bool := MW.figs (l.take 1) || (decide (l.head? = some 45) && decide (1 < l.length))
theorem mtc_end {rs : List (Nat × Tk)} : ∀ {ws : List (List Nat)} {a : Nat}, a ≤ rs.length → (∀ w ∈ ws, w ≠ []) → a + mtc rs a ws ≤ rs.length
  | [], a, h, _ => h
  | w :: ws, a, h, hne => by
    unfold mtc
    split
    · rename_i e
      have hl := nxt_lt (rs := rs) (a := a) (b := false) (by rw [e]; exact hne w List.mem_cons_self)
      have := mtc_end (rs := rs) (ws := ws) (a := a + 1) hl fun x hx => hne x (List.mem_cons_of_mem _ hx)
      omega
    · exact h
end D
namespace D
open PySem PySem.Spec PyProof.Rows L2
/-! ### reading as a function of the tokens: what is read and the place behind it, or a fault's line and reason -/
inductive Po (α : Type) where
  | ok (x : α) (n : Nat)
  | bad (r : Nat) (w : List Nat)
def Po.bd {α β : Type} (p : Po α) (f : α → Nat → Po β) : Po β := match p with
  | .ok x n => f x n
  | .bad r w => .bad r w
abbrev Tks := List (Nat × Tk)
abbrev nx (rs : Tks) (n : Nat) : List Nat := nxt rs n false
abbrev sx (rs : Tks) (n : Nat) : List Nat := nxt rs n true
/-- a word that may stand there -/
def acc (rs : Tks) (w : List Nat) (n : Nat) : Bool := decide (nx rs n = w)
end D
namespace D
open PySem PySem.Spec PyProof.Rows L2
/-- what a call comes to -/
inductive Ov where
  | val (v : V) | dec (u : Int) (s : Nat) | flt (r : Nat) (w : List Nat)
def OvAt (K : PySem.W.Frag) (H : Hp) (p : Addr) : Ov → Prop
  | .val v => SqT K H p [.str (SX.S kVALU), v]
  | .dec u s => ∃ q, SqT K H p [.str (SX.S kVALU), .ref q] ∧ SqT K H q (WP.dv u s)
  | .flt r w => SqT K H p [.str (SX.S [102, 97, 117, 108, 116]), .int (r : Int), .str (SX.S w)]
def refX (rs : List (Nat × Tk)) (n : Nat) (w : List Nat) : Ov × Nat := (.flt (rowC rs n) (rsn rs n w), n)
/-- a pair of what is due and the place behind it -/
def DueQ (K : PySem.W.Frag) (H : Hp) (Q : VK) (o : Ov × Nat) : Prop := ∀ (t p : Addr) (H' : Hp), Same H H' → SqT K H' t [.ref p, .int (o.2 : Int)] → OvAt K H' p o.1 → Q (.ref t) H'
def intX (rs : List (Nat × Tk)) (n : Nat) (w : List Nat) (lo hi : Int) : Ov × Nat :=
  if MW.figs w = false then refX rs n kWORD else if intW w = false ∨ ¬ (lo ≤ (NumText.digitsVal w : Int) ∧ (NumText.digitsVal w : Int) ≤ hi) then refX rs n kVALU else (.val (.int (NumText.digitsVal w : Nat)), n + 1)
/-- what a taking call comes to -/
def takX (rs : List (Nat × Tk)) (n D : Nat) (bound : Int) : Ov × Nat :=
  if D = 6 then (if MW.nameB (nxt rs n false) = true then (.val (.str (SX.S (nxt rs n false))), n + 1) else refX rs n kWORD)
  else if D = 7 then intX rs n (nxt rs n false) 0 bound
  else if D = 8 then intX rs n (nxt rs n false) 7 bound
  else if D = 9 then (if numB (nxt rs n false) = true then (match MT.spell (nxt rs n false) with | some (u, s) => (.dec u s, n + 1) | none => refX rs n kVALU) else refX rs n kWORD)
  else if nxt rs n false ≠ [] then refX rs n kWORD
  else if 1 ≤ (nxt rs n true).length ∧ (nxt rs n true).length ≤ 80 then (.val (.str (SX.S (nxt rs n true))), n + 1) else refX rs n kVALU
/-- rows that are words or texts -/
structure RsOk (rs : List (Nat × Tk)) : Prop where
  z : rs.length ≤ 100
  l : ∀ u ∈ rs, u.2.2.length ≤ 1000 ∧ ∀ x ∈ u.2.2, x < 128
  e : ∀ u ∈ rs, u.2.2 = [] → u.2.1 = true
theorem RsOk.nx {rs : List (Nat × Tk)} (h : RsOk rs) (n : Nat) (b : Bool) : (nxt rs n b).length ≤ 1000 ∧ ∀ x ∈ nxt rs n b, x < 128 := by
  unfold nxt
  cases e : rs[n]? with
  | none => exact ⟨Nat.zero_le _, fun x hx => nomatch hx⟩
  | some t =>
    have := h.l t (List.mem_of_getElem? e)
    obtain ⟨r, k, w⟩ := t
    show (if k = b then w else []).length ≤ 1000 ∧ ∀ x ∈ (if k = b then w else []), x < 128
    split
    · exact this
    · exact ⟨Nat.zero_le _, fun x hx => nomatch hx⟩
theorem refX_end {rs : List (Nat × Tk)} {n : Nat} (h : n = rs.length) (w v : List Nat) : refX rs n w = refX rs n v := by
  unfold refX rsn
  rw [if_pos h, if_pos h]
/-- what a call comes to -/
def outX (rs : List (Nat × Tk)) (n D : Nat) (ws : List (List Nat)) (bound : Int) : Ov × Nat :=
  if D = 0 then (.val (.str (SX.S (nxt rs n false))), n)
  else if D = 1 then (.val (.bl (decide (n = rs.length))), n)
  else if D = 2 then (.val (.int (rowC rs n : Nat)), n)
  else if D = 3 then (.val (.int (rowB rs n : Nat)), n)
  else if D = 4 then (if nxt rs n false = ws.headD [] then (.val (.bl true), n + 1) else (.val (.bl false), n))
  else if D = 5 then (if mtc rs n ws = ws.length then (.val .non, n + ws.length) else refX rs (n + mtc rs n ws) kWORD)
  else takX rs n D bound
theorem len5 {α : Type} {l : List α} (h : l.length = 5) : ∃ v0 v1 v2 v3 v4, l = [v0, v1, v2, v3, v4] := by
  match l, h with
  | [v0, v1, v2, v3, v4], _ => exact ⟨v0, v1, v2, v3, v4, rfl⟩
theorem len3 {α : Type} {l : List α} (h : l.length = 3) : ∃ v0 v1 v2, l = [v0, v1, v2] := by
  match l, h with
  | [v0, v1, v2], _ => exact ⟨v0, v1, v2, rfl⟩
end D
namespace WP
open PySem PySem.Spec PyProof.Rows PyProof.Rows.G L2
/-! ### sorted(a list of tuples of two ints and a text) -/
end WP
namespace WP
open PySem PySem.Spec PyProof.Rows L2
/-! ### a method of an object that stands in a field -/
end WP
namespace WP
open PySem PySem.Spec PyProof.Rows L2
/-- what a class's making lets out goes to the suite of this def's try, whatever the names hold -/
theorem passL {X : Cx} {W : WX} {n : Nat} (tk : Takes X W) (hn : X.N.length = n) : Passes (L2.CX X.prog X.w) X (fun cls d H => ∀ σ : L2.St, σ.length = n → W cls d σ H) :=
  fun pins σ H s e s' I c => tk e s' (XE.of_call I (fun _ _ _ h => h σ (I.len.trans hn)) c)
end WP
namespace WP
open PySem PySem.Spec PyProof.Rows L2
end WP
namespace WP
open PySem PySem.Spec PyProof.Rows L2
/-! ### methods, called while an exception is handled -/
end WP
/-! ### d.items() walked while an exception is handled -/
namespace HotI
open PySem PySem.Spec PyProof.Rows L2
/-! ### a tuple taken apart while an exception is handled -/
section
variable {prog : Program} {w : World} {A : Around} {E : Value → Shared → Prop} {s : Shared}
theorem tup_end {it t x1 : Addr} {i : Nat} {items : Array Value} {Q : Option Value → Shared → Prop} (hot : HotX.HotAt A x1 s.heap) (hne : x1 ≠ it) (hit : IsTupIter s.heap it t i) (ht : IsTup s.heap t items) (hx : items[i]? = none)
    (hQ : ∀ h', (∀ b o, b ≠ it → s.heap.get? b = some o → h'.get? b = some o) → Q none { s with heap := h' }) : wpAny (model prog w) A (pyNext (.ref it)) Q E s := by
  obtain ⟨hh, o1, vs1, h1, d1, c1⟩ := hot
  obtain ⟨o, ho, hc, hd⟩ := id hit
  obtain ⟨ol, hol, _, nl, hdl⟩ := ht
  unfold pyNext
  refine wpAny_bind (wpAny_attempt (wpAny_callSpecial?_slot (name := Str.ofString "__next__") hit.typeIs slot_tupleiter_next
    (wpAny_call_entry slot_tupleiter_next hit.typeIs entry_tupleiter_next ?_ (args_tupleiter_next _))))
  show wpAny _ _ (field (.ref it) 0 >>= _) _ _ s
  refine wpAny_bind (wpAny_field ho hd (x := .ref t) rfl ?_)
  show wpAny _ _ (if (Value.ref t == Value.none) = true then _ else _) _ _ s
  rw [if_neg (show ¬ ((Value.ref t == Value.none) = true) from Bool.false_ne_true)]
  show wpAny _ _ (field (.ref it) 1 >>= _) _ _ s
  refine wpAny_bind (wpAny_field ho hd (x := .int i 0) rfl ?_)
  show wpAny _ _ (seqItems? (.ref t) >>= _) _ _ s
  refine wpAny_bind (wpAny_seqItems hol hdl ?_)
  simp only [Int.toNat_natCast, hx]
  refine wpAny_bind (wpAny_rule (wpAny_bind (wpAny_setField ho hd (by simp) ?_)))
  show wpAny _ _ (newExc (.type "StopIteration") [] >>= _) _ _ _
  refine wpAny_bind ?_
  simp only [newExc, newTuple]
  refine wpAny_bind (wpAny_newObj_type ?_ (by size_fits))
  refine wpAny_bind (m := firstArgMember _ _) (wpAny_of_eq (a := Value.none) (by first | rfl | (simp only [firstArgMember]; rfl)) ?_)
  refine wpAny_newObj_type ?_ (by size_fits)
  have u1 : ∀ {f : Obj → Obj}, (s.heap.update it f).get? x1 = some o1 := by intro f; rw [Heap.get?_update_other _ _ hne.symm]; exact h1
  refine HotX.raiseNew_hot ⟨hh, o1, vs1, Heap.get?_push_of_some _ (Heap.get?_push_of_some _ u1), d1, c1⟩ (Nat.ne_of_lt (Heap.lt_size (Heap.get?_push_of_some _ u1))) (Heap.get?_push_size _ rfl) rfl (by first | (simp; done) | (simp; omega) | (simp only [Array.size_append]; simp; omega)) ?_
  refine wpAny_bind (wpAny_isInstance (T := "StopIteration") (b := true) ⟨_, Heap.get?_update_self _ (Heap.get?_push_size _ rfl) rfl, rfl⟩ isSubtype_stop ?_)
  refine wpAny_pure (hQ _ fun b o hb e => ?_)
  have u2 : ∀ {f : Obj → Obj}, (s.heap.update it f).get? b = some o := by intro f; rw [Heap.get?_update_other _ _ hb.symm]; exact e
  rw [Heap.get?_update_other _ _ (Nat.ne_of_gt (Heap.lt_size (Heap.get?_push_of_some _ u2)))]
  exact Heap.get?_push_of_some _ (Heap.get?_push_of_some _ u2)
end
end HotI
namespace WP
open PySem PySem.Spec PyProof.Rows L2
/-! ### properties -/
structure CalleeP (P : Program) (w : World) (K : PySem.W.Frag) (mg : MG) (base : Heap) (CX : CXT) (lv : Nat) (nm m : Str) (ps : List Str) (sp : Sp) : Prop where
  ex : ∃ (f : Addr) (fd : FuncData) (p : Addr), FnOk P w K mg base CX lv f fd ps sp ∧ PropOf K (ca mg nm) m p f ∧ Binds K fd ps []
theorem CalleeP.mk' {P : Program} {w : World} {K : PySem.W.Frag} {mg : MG} {base : Heap} {CX : CXT} {lv : Nat} {nm m : Str} {ps : List Str} {sp : Sp} {C f p : Addr} {fd : FuncData}
    (h : FnOk P w K mg base CX lv f fd ps sp) (hc : mg nm = some (.ref C)) (hp : PropOf K C m p f) (b : Binds K fd ps []) : CalleeP P w K mg base CX lv nm m ps sp := ⟨⟨f, fd, p, h, by rw [ca_of hc]; exact hp, b⟩⟩
structure CalleePH (P : Program) (w : World) (K : PySem.W.Frag) (mg : MG) (base : Heap) (CX : CXT) (lv : Nat) (nm m : Str) (ps : List Str) (sp : Sp) : Prop where
  ex : ∃ (f : Addr) (fd : FuncData) (p : Addr), L2H.FnH P w K mg base CX lv f fd ps sp ∧ PropOf K (ca mg nm) m p f ∧ Binds K fd ps []
theorem CalleePH.mk' {P : Program} {w : World} {K : PySem.W.Frag} {mg : MG} {base : Heap} {CX : CXT} {lv : Nat} {nm m : Str} {ps : List Str} {sp : Sp} {C f p : Addr} {fd : FuncData}
    (h : L2H.FnH P w K mg base CX lv f fd ps sp) (hc : mg nm = some (.ref C)) (hp : PropOf K C m p f) (b : Binds K fd ps []) : CalleePH P w K mg base CX lv nm m ps sp := ⟨⟨f, fd, p, h, by rw [ca_of hc]; exact hp, b⟩⟩
/-- o.f, f a property -/
def tPropC (C : Addr) (sp : Sp) (ta : TE) : TE := fun σ H Q => ta σ H fun x H1 => ∃ a dx fs, x = .ref a ∧ H1 a = some (.ins C dx fs) ∧ sp [.ref a] H1 Q E0
section
variable {X : Cx} {k j : Nat} {ps : List Str} {sp : Sp} {nm m : Str} {pos : Pos} {e : Expr} {ta : TE} {at' : List Str}
theorem pe_propC (he : PE X e ta) (o : ClsOk X.K X.mg nm at') (C : CalleeP X.prog X.w X.K X.mg X.base CX0 k nm m ps sp) (hr : Room j X.A) (hl : k + 1 ≤ j := by decide) (hab : attributeBase e m X.env (eval e X.env) = eval e X.env := by rfl) :
    PE X (.Attribute e m pos) (tPropC (ca X.mg nm) sp ta) := by
  obtain ⟨f, fd, p, F, hp, hb⟩ := C.ex
  exact pe_prop (dvs := []) (ds := []) he o.c hp F (hr.mono hl) hb .nil (pass0 (X := X.nox)) hab
theorem roomH_in1 {A : Around} (r : L2H.RoomH (k + 1) A) : L2H.RoomH k A.in1 := ⟨by have := r.dp; show A.depth + 3 * k + 5 < _; omega, by have := r.un; show A.units + 1 + 16 * k + 200 < _; omega⟩
theorem getprop_hot {C p g a dx : Addr} {fs : List (Str × V)} {f : Str} {fd : FuncData} {pins : List (Addr × Obj)} {σ : L2.St} {H : Hp} {s : Shared} {Q : VK} {b : Bool} {E' : Value → Shared → Prop} (I : Inv X pins σ H s) (ea : H a = some (.ins C dx fs)) (c : Cls X.K C) (hp : PropOf X.K C f p g)
    (F : L2H.FnH X.prog X.w X.K X.mg X.base CX0 k g fd ps sp) (hr : L2H.RoomH (k + 1) X.A) (hc : L2H.HotC X) (hb : Binds X.K fd ps []) (h : sp [.ref a] H Q E0) :
    wpAny (model X.prog X.w) X.A (getAttr (.ref a) f b) (EP X pins σ Q) E' s := by
  obtain ⟨mA, O, _, _, _, _⟩ := ins_get I.hok ea
  obtain ⟨od, J, _⟩ := O.look
  obtain ⟨rest, hrec⟩ := hp.rec_
  obtain ⟨pn, hot, hpn⟩ := hc
  have I1 := I.tok (s.toks + 1)
  have hl : ([Value.ref a] ++ []).length = ps.length := by
    rw [← F.len _ _ _ _ h]
    rfl
  have hcl : (PySem.W.clsIn X.K C).isSome = true := by
    obtain ⟨cd, hc, _⟩ := PySem.W.any_some c.hd
    rw [hc]
    rfl
  have P1 := I1.pin pn (List.mem_append_left _ hpn)
  have hpin : L2H.PinOk X.stack H { s with toks := s.toks + 1 } pn := ⟨P1.1, P1.2.1, fun hm => (List.mem_cons.mp (I1.stkSub pn.1 hm)).elim P1.2.2.1 P1.2.2.2.1, P1.2.2.2.2⟩
  refine PySem.W.get_bind I.kIn J (PySem.W.plainGet_of (c.get f)).1 (PySem.W.findObj_data hcl hp.at_ hp.get hp.tak) (PySem.W.plainGet_of (c.get f)).2 (wpAny_call (PySem.W.prop_get (s := { s with toks := s.toks + 1 }) I.kIn hrec ?_))
  refine codeAny_mono (F.run X.A.in1 X.stack { s with toks := s.toks + 1 } H ⟨[.ref a], []⟩ [.ref a] [.ref a] Q E0 pn (roomH_in1 hr) ⟨hot.1, hot.2⟩ hpin I1.env0.in1 (hb _ [.ref a] I1.kIn hl) (.cons rfl .nil) h) fun r s' hq => ?_
  cases r with
  | error er => exact False.elim hq
  | ok fl =>
    cases fl with
    | ret u =>
      obtain ⟨v, H', I3, rv, q3⟩ := I1.after hq
      show wpAny _ _ (handedOut u) _ _ _
      rw [PySem.W.handedOut_of (handed_of rv)]
      exact wpAny_pure ⟨v, H', I3, rv, q3⟩
    | next => exact False.elim hq
    | brk => exact False.elim hq
    | cont => exact False.elim hq
theorem pe_propH (he : PE X e ta) (o : ClsOk X.K X.mg nm at') (C : CalleePH X.prog X.w X.K X.mg X.base CX0 k nm m ps sp) (hr : L2H.RoomH j X.A) (hc : L2H.HotC X) (hl : k + 1 ≤ j := by decide) (hab : attributeBase e m X.env (eval e X.env) = eval e X.env := by rfl) :
    PE X (.Attribute e m pos) (tPropC (ca X.mg nm) sp ta) := by
  obtain ⟨f, fd, p, F, hp, hb⟩ := C.ex
  refine ⟨fun pins s σ H Q I h => ?_⟩
  refine attr_of hab (thn (he.run pins s σ H _ I h) fun u s1 ⟨x, H1, I1, rx, a, dx, fs, ex, ea, q⟩ => ?_)
  subst ex
  obtain rfl : u = Value.ref a := rx
  exact getprop_hot I1 ea o.c hp F (hr.mono hl) hc hb q
end
end WP
/-! ### min of two while an exception is handled -/
namespace HotI
open PySem PySem.Spec PyProof.Rows L2
theorem walks_tupleH {prog : Program} {w : World} {A : Around} {x1 : Addr} (I ax : Addr) (hne : ax ≠ I) (hn1 : x1 ≠ I) (items : Array Value) :
    Walks prog w A I [I, ax, x1] [I] items.size (fun i v => items[i]? = some v) (fun i h => h.IsTupleIter I ax i ∧ h.IsTuple ax items ∧ HotX.HotAt A x1 h) where
  sub := fun b hb => by simp at hb; simp [hb]
  frame := fun _ _ _ st hk => ⟨st.1.at fun o e => hk I (by simp) o e, st.2.1.at fun o e => hk ax (by simp) o e, st.2.2.1, by
    obtain ⟨o, vs, e, d⟩ := st.2.2.2
    exact ⟨o, vs, hk x1 (by simp) o e, d⟩⟩
  item := fun i s Q E hi st hQ => by
    refine wpAny_pyNext_tuple_item st.1 st.2.1 (x := items[i]) (by simp [hi]) fun h' hit' hs' => ?_
    refine hQ _ h' s.toks (by simp [hi]) ⟨hit', st.2.1.extBut hs'.extBut hne, st.2.2.1, ?_⟩ fun b o hb e => hs'.extBut b o (fun h => hb (by simp [h])) e
    obtain ⟨o, vs, e, d⟩ := st.2.2.2
    exact ⟨o, vs, hs'.extBut x1 o hn1 e, d⟩
  done := fun s Q E st hQ => tup_end (x1 := x1) st.2.2 hn1 st.1 st.2.1 (by simp) fun h' he' => hQ h' s.toks fun b o hb e => he' b o (fun h => hb (by simp [h])) e
  self := fun _ _ _ _ st hQ => wpAny_pyIter_tupleiter st.1 hQ
section
variable {prog : Program} {w : World} {A : Around} {E : Value → Shared → Prop} {s : Shared}
theorem min_two_hot {a b : Int} {t u : Tok} {x1 : Addr} {Q : Value → Shared → Prop} (hot : HotX.HotAt A x1 s.heap)
    (h : ∀ h' tk, (∀ c o, s.heap.get? c = some o → h'.get? c = some o) → Q (if b < a then .int b u else .int a t) { s with heap := h', toks := tk }) :
    wpAny (model prog w) A (call (.builtin "min") [.int a t, .int b u]) Q E s := by
  have hT : (s.heap.push { cls := .type "tuple", data := .seq #[.int a t, .int b u] }).IsTuple s.heap.objs.size (intItems #[(a, t), (b, u)]) := ⟨_, Heap.get?_push_size _ rfl, rfl, 0, by simp [intItems]⟩
  obtain ⟨hh, o1, vs1, e1, d1, c1⟩ := hot
  have hx1 := Heap.lt_size e1
  refine call_min_two (wpAny_pyIter_tuple hT ?_)
  have hsz : (s.heap.push { cls := .type "tuple", data := .seq #[.int a t, .int b u] }).objs.size = s.heap.objs.size + 1 := Heap.size_push ..
  refine ⟨_, [_, s.heap.objs.size, x1], [_], _, _, _, _, rfl, walks_tupleH (A := A.in1) (x1 := x1) _ s.heap.objs.size (by rw [hsz]; exact Nat.ne_of_lt (Nat.lt_succ_self _)) (by rw [hsz]; exact Nat.ne_of_lt (Nat.lt_succ_of_lt hx1)) (intItems #[(a, t), (b, u)]),
    ⟨⟨_, Heap.get?_push_size _ rfl, rfl, rfl⟩, hT.push _, hh, o1, vs1, Heap.get?_push_of_some _ (Heap.get?_push_of_some _ e1), d1, c1⟩, fun c hc => ?_, by simp [intItems], CmpOf.ints_lt (numAt #[(a, t), (b, u)]) (fun _ _ => intItems_at), fun v h' tk hP hk => ?_⟩
  · show c < ((s.heap.push _).push _).objs.size
    rw [Heap.size_push, hsz]
    rcases List.mem_cons.mp hc with rfl | hc
    · rw [hsz]; exact Nat.lt_succ_self _
    · rcases List.mem_cons.mp hc with rfl | hc
      · exact Nat.lt_succ_of_lt (Nat.lt_succ_self _)
      · rcases List.mem_cons.mp hc with rfl | hc
        · exact Nat.lt_succ_of_lt (Nat.lt_succ_of_lt hx1)
        · cases hc
  · have hold : ∀ c o, s.heap.get? c = some o → h'.get? c = some o := fun c o e => by
      refine hk c o (fun hm => ?_) (Heap.get?_push_of_some _ (Heap.get?_push_of_some _ e))
      rcases List.mem_cons.mp hm with e1 | hm
      · have := Heap.lt_size e; rw [e1, hsz] at this; exact Nat.lt_irrefl _ (Nat.lt_of_succ_lt this)
      · cases hm
    have := h h' tk hold
    have hv : v = if b < a then Value.int b u else Value.int a t := by
      have hP' : (intItems #[(a, t), (b, u)])[argBest (fun i j => decide (numAt #[(a, t), (b, u)] i < numAt #[(a, t), (b, u)] j)) 1]? = some v := by
        have hsz2 : (intItems #[(a, t), (b, u)]).size - 1 = 1 := by simp [intItems]
        rw [← hsz2]; exact hP
      by_cases hba : b < a
      · have e : argBest (fun i j => decide (numAt #[(a, t), (b, u)] i < numAt #[(a, t), (b, u)] j)) 1 = 1 := by simp [argBest, numAt, hba]
        rw [e] at hP'
        simpa [intItems, hba] using hP'.symm
      · have e : argBest (fun i j => decide (numAt #[(a, t), (b, u)] i < numAt #[(a, t), (b, u)] j)) 1 = 0 := by simp [argBest, numAt, hba]
        rw [e] at hP'
        simpa [intItems, hba] using hP'.symm
    rw [hv]; exact this
end
theorem call_min2H {X : Cx} (hc : L2H.HotC X) : CallR X (.builtin "min") (fun xs H Q => ∃ i j, xs = [.int i, .int j] ∧ Q (.int (if j < i then j else i)) H) := by
  intro pins s σ H xs us Q I r h
  obtain ⟨i, j, rfl, q⟩ := h
  obtain ⟨u, w', rfl, ⟨t, rfl⟩, ⟨t', rfl⟩⟩ := vals2 r
  obtain ⟨p, ⟨hh, v1, d1, c1⟩, hp⟩ := hc
  refine min_two_hot (x1 := p.1) ⟨hh, p.2, v1, (I.pin p (List.mem_append_left _ hp)).1, d1, c1⟩ fun h' tk k => ⟨_, H, I.kept k, ?_, q⟩
  by_cases hj : j < i
  · rw [if_pos hj, if_pos hj]; exact ⟨_, rfl⟩
  · rw [if_neg hj, if_neg hj]; exact ⟨_, rfl⟩
end HotI
namespace WP
open PySem PySem.Spec PyProof.Rows L2
theorem c_min2H {X : Cx} (hc : L2H.HotC X) : CallR X (.builtin "min") rMin2 := HotI.call_min2H hc
/-! ### def m(self, *v) -/
/-- what a star def promises of a call -/
def starSp (n : Nat) (sp : Sp) : Sp := fun vs H Q E => ∃ ws rest, vs = ws ++ rest ∧ ws.length = n ∧ rest.length ≤ sizeLine ∧ ∀ p, H p = Option.none → sp (ws ++ [V.ref p]) (upd H p (.tup rest)) Q E
structure CalleeMS (P : Program) (w : World) (K : PySem.W.Frag) (mg : MG) (base : Heap) (CX : CXT) (lv : Nat) (nm m : Str) (ps : List Str) (sp : Sp) : Prop where
  ex : ∃ f : Addr, FnR P w K mg base CX lv f (starSp 1 sp) ∧ Meth K (ca mg nm) m f
theorem CalleeMS.mk' {P : Program} {w : World} {K : PySem.W.Frag} {mg : MG} {base : Heap} {CX : CXT} {lv : Nat} {nm m : Str} {ps : List Str} {sp : Sp} {C f : Addr}
    (h : FnR P w K mg base CX lv f (starSp 1 sp)) (hc : mg nm = some (.ref C)) (hm : Meth K C m f) : CalleeMS P w K mg base CX lv nm m ps sp := ⟨⟨f, h, by rw [ca_of hc]; exact hm⟩⟩
theorem okStar {P : Program} {w : World} {K : PySem.W.Frag} {mg : Str → Option Value} {base : Heap} {x qual : Str} {st : Stmt} {f : Addr} {fd : FuncData} {N ps : List Str} {pv : Str} {k : Nat} {sp : Sp} {CX : CXT} (F : Fun K x qual st f fd) (hX : StX.CXUp CX) (S : FnScope N (ps ++ [pv]) (defScope st))
    (hb : ∀ (kV doc pm : Value) (an : Option Addr) (cdv ct : Value) (us rest : List Value), us.length = ps.length → bindArgs (PySem.W.fnOf x qual (defArgs st) (defBody st) (defScope st) .none kV doc pm an cdv ct) ⟨us ++ rest, []⟩ = (newTuple rest >>= fun t => pure (ps.zip us ++ [(pv, t)])))
    (hbody : ∀ (cdv : Value) (A : Around) (outer : List Env) (s : Shared) (H : Hp) (vs : List V) (Q : VK) (E : XK), Room k (A.deeper (envOfC qual (defScope st) s.heap.objs.size f cdv)) → sp vs H Q E →
      ∃ t, PSs (cxOf CX P w K mg base N qual (defScope st) f cdv A outer s H E) (defBody st) t ∧ t { nx := fun _ H' => Q .non H', rt := Q } (start N vs) H) : FnR P w K mg base CX (k + 1) f (starSp ps.length sp) := by
  obtain ⟨oc, od, kV, doc, pm, an, cdv, ct, osl, rfl, lk, hcd⟩ := F.ex
  exact StX.fn_star lk hcd S hX (fun us rest hl => hb kV doc pm an cdv ct us rest hl) fun A outer s H vs Q E hr hsp => hbody cdv A outer s H vs Q E hr hsp
def tMethS (C : Addr) (m : Str) (sp : Sp) (E : XK) (ta : TE) (t : TA) : TE := fun σ H Q => ta σ H fun x H1 => ∃ a dx fs, x = .ref a ∧ H1 a = some (.ins C dx fs) ∧ fs.lookup m = Option.none ∧ t σ H1 fun vs H2 => vs.length ≤ 1000 ∧ ∀ p, H2 p = Option.none → sp [.ref a, .ref p] (upd H2 p (.tup vs)) Q E
section
variable {X : Cx} {CX : CXT} {k j : Nat} {ps : List Str} {sp : Sp} {nm m : Str} {pos apos : Pos} {o e : Expr} {es : List Expr} {ta : TE} {t : TA} {at' : List Str} {E : XK}
theorem pe_mS {pl : Sem Bool} (he : PE X o ta) (c : ClsOk X.K X.mg nm at') (C : CalleeMS X.prog X.w X.K X.mg X.base CX k nm m ps sp) (hr : Room j X.A) (hx : Passes CX X E) (ha : PA X (e :: es) t) (hl : k ≤ j := by decide)
    (hst : starEach (e :: es) X.env = (false, eval e X.env) :: starEach es X.env := by rfl) (hpl : (backTo pos (starEach es X.env)).any (·.1) = false := by rfl)
    (ht : eval (.Call (.Attribute o m apos) (e :: es) [] pos) X.env = (do
      let ov ← eval o X.env
      standAt apos.atName
      let (f, first) ← holding [ov] (getMethod ov m pl)
      callWith pos f first (backTo pos (starEach (e :: es) X.env)) (backToKw pos (keywordEach [] X.env))) := by rfl) :
    PE X (.Call (.Attribute o m apos) (e :: es) [] pos) (tMethS (ca X.mg nm) m sp E ta t) := by
  obtain ⟨f, F, hm⟩ := C.ex
  refine ⟨fun pins s σ H Q I h => ?_⟩
  refine PySem.W.methodCall_KW (pl := pl) (thn (he.run pins s σ H _ I h) fun u s1 ⟨x, H1, I1, rx, a, dx, fs, ex, ea, l, q⟩ => ?_) ht
  subst ex
  obtain rfl : u = Value.ref a := rx
  refine getmeth_ok I1 ea c.c hm l ?_
  refine PySem.W.callWith_K (first := [.ref a]) (h₀ := X.base) I.ok.mod.kin hm.kp (thn (ha.run pos pins s1 σ H1 _ I1 q) fun us s2 ⟨vs, H2, I2, r, hz, q2⟩ => ⟨I2.kIn, ?_⟩) hst hpl
  exact wpAny_call (run_fnR (us := .ref a :: us) (vs := .ref a :: vs) F (hr.mono hl) hx I2 (.cons rfl r) ⟨[.ref a], vs, rfl, rfl, by rw [sizeLine_eq]; omega, q2⟩)
end
/-! ### o.m(k = v, ..) -/
structure CalleeMK (P : Program) (w : World) (K : PySem.W.Frag) (mg : MG) (base : Heap) (CX : CXT) (lv : Nat) (nm m : Str) (ps ks : List Str) (gV : List V → List V → List V) (sp : Sp) : Prop where
  ex : ∃ (f : Addr) (fd : FuncData) (g : List Value → List Value → List Value), FnOk P w K mg base CX lv f fd ps sp ∧ Meth K (ca mg nm) m f ∧ KBn K fd ps 1 ks g gV
theorem CalleeMK.mk' {P : Program} {w : World} {K : PySem.W.Frag} {mg : MG} {base : Heap} {CX : CXT} {lv : Nat} {nm m : Str} {ps ks : List Str} {gV : List V → List V → List V} {g : List Value → List Value → List Value} {sp : Sp} {C f : Addr} {fd : FuncData}
    (h : FnOk P w K mg base CX lv f fd ps sp) (hc : mg nm = some (.ref C)) (hm : Meth K C m f) (b : KBn K fd ps 1 ks g gV) : CalleeMK P w K mg base CX lv nm m ps ks gV sp := ⟨⟨f, fd, g, h, by rw [ca_of hc]; exact hm, b⟩⟩
def tMethK (C : Addr) (m : Str) (n : Nat) (sp : Sp) (gV : List V → List V → List V) (E : XK) (ta : TE) (tk : TA) : TE := fun σ H Q => ta σ H fun x H1 => ∃ a dx fs, x = .ref a ∧ H1 a = some (.ins C dx fs) ∧ fs.lookup m = Option.none ∧ tk σ H1 fun zs H2 => zs.length = n ∧ sp (gV [.ref a] zs) H2 Q E
section
variable {X : Cx} {CX : CXT} {k j : Nat} {ps ks : List Str} {gV : List V → List V → List V} {sp : Sp} {nm m : Str} {pos apos : Pos} {o : Expr} {kws : List Keyword} {ta : TE} {tk : TA} {at' : List Str} {E : XK}
theorem pe_mK {pl : Sem Bool} (he : PE X o ta) (c : ClsOk X.K X.mg nm at') (C : CalleeMK X.prog X.w X.K X.mg X.base CX k nm m ps ks gV sp) (hr : Room j X.A) (hx : Passes CX X E) (hkw : PK X kws tk) (hl : k ≤ j := by decide)
    (hall : (backToKw pos (keywordEach kws X.env)).all (·.1.isSome) = true := by rfl) (hks : (backToKw pos (keywordEach kws X.env)).filterMap (·.1) = ks := by rfl)
    (hpl : ((backTo pos (starEach [] X.env)).any (·.1) || (backToKw pos (keywordEach kws X.env)).any (·.1.isNone)) = false := by rfl)
    (ht : eval (.Call (.Attribute o m apos) [] kws pos) X.env = (do
      let ov ← eval o X.env
      standAt apos.atName
      let (f, first) ← holding [ov] (getMethod ov m pl)
      callWith pos f first (backTo pos (starEach [] X.env)) (backToKw pos (keywordEach kws X.env))) := by rfl) :
    PE X (.Call (.Attribute o m apos) [] kws pos) (tMethK (ca X.mg nm) m ks.length sp gV E ta tk) := by
  obtain ⟨f, fd, g, F, hm, hb⟩ := C.ex
  refine ⟨fun pins s σ H Q I h => ?_⟩
  refine PySem.W.methodCall_KW (pl := pl) (thn (he.run pins s σ H _ I h) fun u s1 ⟨x, H1, I1, rx, a, dx, fs, ex, ea, l, q⟩ => ?_) ht
  subst ex
  obtain rfl : u = Value.ref a := rx
  refine getmeth_ok I1 ea c.c hm l ?_
  refine PySem.W.callWith_KW0 (first := [.ref a]) (h₀ := X.base) I.ok.mod.kin hm.kp hall ?_ hpl
  refine thn (hkw.run pos pins s1 σ H1 _ I1 q) fun ws s2 ⟨zs, H2, I2, rz, l2, q2⟩ => ⟨I2.kIn, ?_⟩
  rw [hks]
  exact run_fnN (us := [.ref a]) (vs := [.ref a]) F (hr.mono hl) hb hx I2 (.cons rfl .nil) rz rfl l2 q2
end
/-! ### raise C(..) from None in an except suite -/
structure CalleeEH (P : Program) (w : World) (K : PySem.W.Frag) (mg : MG) (base : Heap) (CX : CXT) (lv : Nat) (nm : Str) (ps : List Str) (sp : Sp) : Prop where
  ex : ∃ (f : Addr) (fd : FuncData), L2H.FnH P w K mg base CX lv f fd ps sp ∧ PySem.W.findIn K (.ref (ca mg nm)) "__init__" = some (some (.ref f)) ∧ PySem.W.typeIn K (.ref f) = some (.type "function") ∧ Binds K fd ps []
theorem CalleeEH.mk' {P : Program} {w : World} {K : PySem.W.Frag} {mg : MG} {base : Heap} {CX : CXT} {lv : Nat} {nm : Str} {ps : List Str} {sp : Sp} {C f : Addr} {fd : FuncData}
    (h : L2H.FnH P w K mg base CX lv f fd ps sp) (hc : mg nm = some (.ref C)) (hi : PySem.W.findIn K (.ref C) "__init__" = some (some (.ref f))) (ht : PySem.W.typeIn K (.ref f) = some (.type "function")) (b : Binds K fd ps []) : CalleeEH P w K mg base CX lv nm ps sp := ⟨⟨f, fd, h, by rw [ca_of hc]; exact hi, ht, b⟩⟩
section
variable {X : Cx} {x : Str} {e : Expr} {es : List Expr} {ta : TA} {p pos pos2 cpos : Pos} {W : WX} {k j n : Nat} {ps : List Str} {sp : Sp} {ats : List Str}
theorem ps_raiseFN (hc : L2H.HotC X) (tk : L2.Takes X W) (o : ExiOk X.K X.mg x ats) (c : CalleeEH X.prog X.w X.K X.mg X.base CX0 k x ps sp) (hr : L2H.RoomH j X.A) (hg : Gl X x) (ha : PA X (e :: es) ta) (hl : k + 1 ≤ j := by decide)
    (nd : (x == ("__debug__" : Str)) = false := by decide) (sh : starEach (e :: es) X.env = (false, eval e X.env) :: starEach es X.env := by rfl) (sp1 : (backTo pos (starEach es X.env)).any (·.1) = false := by rfl) :
    PS X (.Raise (some (.Call (.Name x p) (e :: es) [] pos)) (some (.Constant .none n cpos)) pos2) (fun _ σ H => tMkO (ca X.mg x) sp [] ta σ H fun cls d H' => W cls d σ H') := by
  obtain ⟨f, fd, F, iC, tI, hb⟩ := c.ex
  exact L2H.ps_raiseHN hc tk (L2H.pmk5_oexH (p := p) o.o iC tI F (hr.mono hl) hc hb (pass0 (X := X)) hg o.m ha nd sh sp1)
end
section
variable {σ : L2.St} {H : Hp} {Q : VK} {t tk : TA} {m : Str} {p C dx : Addr} {fs : List (Str × V)} {sp : Sp} {E : XK} {i n : Nat} {gV : List V → List V → List V}
theorem propV (hv : σ[i]? = some (some (.ref p))) (hp : H p = some (.ins C dx fs)) (q : sp [.ref p] H Q E0) : tPropC C sp (tVar i) σ H Q := ⟨.ref p, hv, p, dx, fs, rfl, hp, q⟩
theorem methSV (hv : σ[i]? = some (some (.ref p))) (hp : H p = some (.ins C dx fs)) (hl : fs.lookup m = Option.none) (q : t σ H fun vs H2 => vs.length ≤ 1000 ∧ ∀ b, H2 b = Option.none → sp [.ref p, .ref b] (upd H2 b (.tup vs)) Q E) : tMethS C m sp E (tVar i) t σ H Q := ⟨.ref p, hv, p, dx, fs, rfl, hp, hl, q⟩
theorem methKV (hv : σ[i]? = some (some (.ref p))) (hp : H p = some (.ins C dx fs)) (hl : fs.lookup m = Option.none) (q : tk σ H fun zs H2 => zs.length = n ∧ sp (gV [.ref p] zs) H2 Q E) : tMethK C m n sp gV E (tVar i) tk σ H Q := ⟨.ref p, hv, p, dx, fs, rfl, hp, hl, q⟩
end
end WP
namespace WP
open PySem PySem.Spec PyProof.Rows L2
/-- in of a text of no or one sign -/
def rIn01 : R2 := fun x y H Q => ∃ z : Str, y = .str z ∧ ((∃ c : Nat, x = .str ⟨#[c]⟩ ∧ Q (.bl (decide (c ∈ z.cps.toList))) H) ∨ (x = .str (SX.S []) ∧ (!(Builtin.Str.occurrences z (SX.S []) 0 z.length 1).isEmpty) = true ∧ Q (.bl true) H))
theorem op_in01 {X : Cx} : OpR X (compareOp .In) rIn01 := by
  intro pins s σ H x y v u Q I rx ry h
  obtain ⟨z, rfl, ⟨c, rfl, q⟩ | ⟨rfl, e, q⟩⟩ := h
  · exact op_in_sign pins s σ H _ _ v u Q I rx ry ⟨c, z, rfl, rfl, q⟩
  · exact op_in_str pins s σ H _ _ v u Q I rx ry ⟨SX.S [], z, rfl, rfl, by rw [e]; exact q⟩
theorem in1 {c : Nat} {l : List Nat} {H : Hp} {Q : VK} (q : Q (.bl (decide (c ∈ l))) H) : rIn01 (.str (SX.S [c])) (.str (SX.S l)) H Q := ⟨_, rfl, .inl ⟨c, rfl, q⟩⟩
theorem in0 {l : List Nat} {H : Hp} {Q : VK} (e : (!(Builtin.Str.occurrences (SX.S l) (SX.S []) 0 (SX.S l).length 1).isEmpty) = true) (q : Q (.bl true) H) : rIn01 (.str (SX.S [])) (.str (SX.S l)) H Q := ⟨_, rfl, .inr ⟨rfl, e, q⟩⟩
end WP
namespace D
open PySem PySem.Spec PyProof.Rows L2
local macro_rules | `(tactic| k_memK) => `(tactic| first
  | (with_reducible refine WP.eqTS ?_) | (with_reducible refine WP.neTS ?_) | (with_reducible refine WP.bm ?_) | (with_reducible refine WP.tyS ?_) | (with_reducible refine WP.gsub ?_) | (with_reducible refine WP.rng3 ?_) | (with_reducible refine WP.sfld ?_) | (with_reducible refine WP.make ?_) | (with_reducible refine WP.gsl ?_) | (with_reducible refine WP.wstr ?_) | (with_reducible refine WP.bm0 ?_) | (with_reducible refine WP.lc ?_) | (with_reducible refine WP.jr ?_) | (with_reducible refine WP.zipS ?_) | (with_reducible refine WP.par ?_) | (with_reducible refine WP.ost ?_) | (with_reducible refine WP.mko ?_) | (with_reducible refine WP.enum1 ?_) | (with_reducible refine WP.tupRev ?_) | (with_reducible refine WP.rev ?_) | (with_reducible refine WP.dnewK ?_) | (with_reducible refine WP.din ?_) | (with_reducible refine WP.dnotin ?_) | (with_reducible refine WP.dput ?_) | (with_reducible refine WP.dget ?_)
  | (with_reducible refine WP.seq ?_) | (with_reducible refine WP.asg ?_) | (with_reducible refine WP.name ?_)
  | ((with_reducible show tVar _ _ _ _); refine WP.var rfl ?_) | (with_reducible refine WP.con ?_) | (with_reducible refine WP.op ?_) | (with_reducible refine WP.i0 ?_)
  | (with_reducible refine WP.un ?_) | (with_reducible refine WP.rU_ ?_)
  | (with_reducible refine WP.ifS ?_) | (with_reducible refine WP.ifE ?_) | (with_reducible refine WP.test ?_) | (with_reducible refine WP.bt ?_) | (with_reducible refine WP.isbV ?_)
  | (with_reducible refine WP.ret ?_) | (with_reducible refine WP.retN ?_) | (with_reducible refine WP.drop ?_) | (with_reducible refine WP.next ?_) | (with_reducible refine WP.brk ?_) | (with_reducible refine WP.cont ?_)
  | (with_reducible refine WP.cb ?_) | (with_reducible refine WP.call ?_) | (with_reducible refine WP.cons ?_) | (with_reducible refine WP.nil ?_) | (with_reducible refine WP.tup ?_) | (with_reducible refine WP.lst ?_)
  | (with_reducible refine WP.eqI ?_) | (with_reducible refine WP.neI ?_) | (with_reducible refine WP.eqT ?_) | (with_reducible refine WP.neT ?_) | (with_reducible refine WP.eqB ?_) | (with_reducible refine WP.neB ?_)
  | (with_reducible refine WP.notT ?_) | (with_reducible refine WP.andT ?_) | (with_reducible refine WP.orT ?_) | (with_reducible refine WP.andV ?_) | (with_reducible refine WP.orV ?_) | (with_reducible refine WP.notV ?_)
  | (with_reducible refine WP.sl ?_) | (with_reducible refine WP.noPart ?_) | (with_reducible refine WP.part ?_) | (with_reducible refine WP.isi ?_) | (with_reducible refine WP.isbV ?_) | (with_reducible refine WP.gsCons ?_) | (with_reducible refine WP.gsNil ?_) | (with_reducible refine WP.forl ?_) | (with_reducible refine WP.rng1 ?_) | (with_reducible refine WP.rng2 ?_) | (with_reducible refine WP.walkL ?_) | (with_reducible refine WP.walkT ?_))
local macro_rules | `(tactic| k_updF) => `(tactic| repeat k_memK)
def top (i : Nat) : Stmt := PySem.Challenge.pw_cardwright_k31_cursor.main.body.getD i (.Pass ⟨0, 0, 0, 0⟩)
structure Blt (w : World) (K : PySem.W.Frag) (mg : Str → Option Value) : Prop where
  b_all : mg "all" = none
  b_bool : mg "bool" = none
  b_enumerate : mg "enumerate" = none
  b_int : mg "int" = none
  b_isinstance : mg "isinstance" = none
  b_len : mg "len" = none
  b_list : mg "list" = none
  b_min : mg "min" = none
  b_ord : mg "ord" = none
  b_range : mg "range" = none
  b_str : mg "str" = none
  b_tuple : mg "tuple" = none
  c_DOUBLED_QUOTE : ∃ u, mg "DOUBLED_QUOTE" = some u ∧ RelV (.str (SX.S [39, 39])) u
  c_FIGURES : ∃ u, mg "FIGURES" = some u ∧ RelV (.str (SX.S [48, 49, 50, 51, 52, 53, 54, 55, 56, 57])) u
  c_FIRST_PRINTABLE : ∃ u, mg "FIRST_PRINTABLE" = some u ∧ RelV (.int 32) u
  c_LAST_PRINTABLE : ∃ u, mg "LAST_PRINTABLE" = some u ∧ RelV (.int 126) u
  c_LETTERS : ∃ u, mg "LETTERS" = some u ∧ RelV (.str (SX.S [97, 98, 99, 100, 101, 102, 103, 104, 105, 106, 107, 108, 109, 110, 111, 112, 113, 114, 115, 116, 117, 118, 119, 120, 121, 122])) u
  c_MOST_DIGITS : ∃ u, mg "MOST_DIGITS" = some u ∧ RelV (.int 18) u
  c_MOST_NAME : ∃ u, mg "MOST_NAME" = some u ∧ RelV (.int 20) u
  c_MOST_PROGRAM : ∃ u, mg "MOST_PROGRAM" = some u ∧ RelV (.int 40000) u
  c_MOST_TEXT : ∃ u, mg "MOST_TEXT" = some u ∧ RelV (.int 80) u
  c_NOT_PRINTABLE : ∃ u, mg "NOT_PRINTABLE" = some u ∧ RelV (.int 37) u
  c_QUOTE : ∃ u, mg "QUOTE" = some u ∧ RelV (.str (SX.S [39])) u
  c_RESERVED : WP.KTp K mg "RESERVED" [.str (SX.S [112, 114, 111, 103, 114, 97, 109]), .str (SX.S [100, 97, 116, 97]), .str (SX.S [102, 105, 108, 101, 115]), .str (SX.S [112, 114, 111, 99, 101, 100, 117, 114, 101]), .str (SX.S [112, 105, 99, 116, 117, 114, 101]), .str (SX.S [111, 99, 99, 117, 114, 115]), .str (SX.S [118, 97, 108, 117, 101]), .str (SX.S [105, 110, 112, 117, 116]), .str (SX.S [111, 117, 116, 112, 117, 116]), .str (SX.S [114, 101, 99, 111, 114, 100]), .str (SX.S [109, 111, 118, 101]), .str (SX.S [116, 111]), .str (SX.S [115, 101, 116]), .str (SX.S [114, 111, 117, 110, 100, 101, 100]), .str (SX.S [101, 108, 115, 101]), .str (SX.S [101, 110, 100]), .str (SX.S [100, 105, 118, 105, 100, 101]), .str (SX.S [98, 121]), .str (SX.S [103, 105, 118, 105, 110, 103]), .str (SX.S [114, 101, 109, 97, 105, 110, 100, 101, 114]), .str (SX.S [105, 102]), .str (SX.S [116, 104, 101, 110]), .str (SX.S [112, 101, 114, 102, 111, 114, 109]), .str (SX.S [116, 104, 114, 117]), .str (SX.S [116, 105, 109, 101, 115]), .str (SX.S [117, 110, 116, 105, 108]), .str (SX.S [118, 97, 114, 121, 105, 110, 103]), .str (SX.S [102, 114, 111, 109]), .str (SX.S [114, 101, 97, 100]), .str (SX.S [97, 116]), .str (SX.S [98, 97, 100]), .str (SX.S [119, 114, 105, 116, 101]), .str (SX.S [115, 104, 111, 119]), .str (SX.S [115, 111, 114, 116]), .str (SX.S [100, 101, 115, 99, 101, 110, 100, 105, 110, 103]), .str (SX.S [99, 108, 101, 97, 114]), .str (SX.S [115, 116, 111, 112]), .str (SX.S [110, 111, 116]), .str (SX.S [97, 110, 100]), .str (SX.S [111, 114]), .str (SX.S [100, 105, 103, 105, 116, 115]), .str (SX.S [116, 101, 120, 116])]
  rp_DOUBLED_QUOTE_QUOTE : WR.Rp mg "DOUBLED_QUOTE" "QUOTE" "''" "'"
  xi_BadProgram : WP.ExiOk K mg "BadProgram" ["line", "reason"]
  k_Cursor : WP.ClsOk K mg "Cursor" ["_tokens", "_at"]
  e_BadDecimal : WP.ExcOk K mg "BadDecimal"
  s_BadDecimal_BadDecimal : PySem.W.subIn K (.ref (WP.ca mg "BadDecimal")) (.ref (WP.ca mg "BadDecimal")) = some true
  s_BadDecimal_BadProgram : PySem.W.subIn K (.ref (WP.ca mg "BadDecimal")) (.ref (WP.ca mg "BadProgram")) = some false
  s_BadProgram_BadDecimal : PySem.W.subIn K (.ref (WP.ca mg "BadProgram")) (.ref (WP.ca mg "BadDecimal")) = some false
  s_BadProgram_BadProgram : PySem.W.subIn K (.ref (WP.ca mg "BadProgram")) (.ref (WP.ca mg "BadProgram")) = some true
abbrev s__law_draws : Stmt := top 35
abbrev N__law_draws : List Str := ["script"]
theorem sc__law_draws : FnScope N__law_draws ["script"] (defScope s__law_draws) := ⟨rfl, rfl, rfl, by decide +kernel, rfl, by decide +kernel, by decide +kernel⟩
/-- the drawing state at d: z is its list and the list's numbers -/
abbrev DZ := Addr × List Int
def DS (K : PySem.W.Frag) (H : Hp) (d : Addr) (z : DZ) : Prop := ∃ (pos cur mix : Int), H d = some (.lst [.ref z.1, .int pos, .int cur, .int mix]) ∧ z.1 ≠ d ∧ H z.1 = some (.lst (z.2.map V.int)) ∧ 0 ≤ pos
theorem DS.same {K : PySem.W.Frag} {H H' : Hp} {d : Addr} {z : DZ} (e : Same H H') (h : DS K H d z) : DS K H' d z := by
  obtain ⟨pos, cur, mix, h1, h2, h3, h4⟩ := h
  exact ⟨pos, cur, mix, e _ _ h1, h2, e _ _ h3, h4⟩
theorem DS.lst {K : PySem.W.Frag} {H : Hp} {d : Addr} {z : DZ} (h : DS K H d z) : ∃ xs, H d = some (.lst xs) := by
  obtain ⟨pos, cur, mix, h1, _⟩ := h
  exact ⟨_, h1⟩
theorem DS.tup {K : PySem.W.Frag} {H H' : Hp} {d p : Addr} {z : DZ} {xs : List V} (h : DS K H d z) (s : WP.Sx d H H') (hp : SqT K H p xs) : SqT K H' p xs := by
  obtain ⟨ys, hx⟩ := h.lst
  exact WP.sqtX s hx hp
theorem DS.new {K : PySem.W.Frag} {H : Hp} {d p : Addr} {z : DZ} (h : DS K H d z) (hp : H p = none) : p ≠ d ∧ p ≠ z.1 := by
  obtain ⟨pos, cur, mix, h1, h2, h3, h4⟩ := h
  exact ⟨fun e => (by rw [e, h1] at hp; cases hp), fun e => (by rw [e, h3] at hp; cases hp)⟩
theorem DS.mut {K : PySem.W.Frag} {H : Hp} {d p : Addr} {z : DZ} {o : HO} (h : DS K H d z) (n : p ≠ d ∧ p ≠ z.1) : DS K (upd H p o) d z := by
  obtain ⟨pos, cur, mix, h1, h2, h3, h4⟩ := h
  exact ⟨pos, cur, mix, by rw [upd_ne (Ne.symm n.1)]; exact h1, h2, by rw [upd_ne (Ne.symm n.2)]; exact h3, h4⟩
theorem DS.alloc {K : PySem.W.Frag} {H : Hp} {d T : Addr} {z : DZ} {o : HO} (h : DS K H d z) (hT : H T = none) : DS K (upd H T o) d z ∧ T ≠ d ∧ WP.Sx d H (upd H T o) ∧ (upd H T o) T = some o :=
  ⟨h.same (WP.same_new hT), (h.new hT).1, WP.Sx.of (WP.same_new hT), upd_same⟩
/-- what was new may be stored to -/
theorem sx_mut {d p : Addr} {H H' : Hp} {o : HO} (e : WP.Sx d H H') (h : H p = none) : WP.Sx d H (upd H' p o) := fun a u n ha => by
  rw [upd_ne (ne_of_none ha h)]; exact e a u n ha
theorem sx_free {d p : Addr} {H H' : Hp} (e : WP.Sx d H H') (n : p ≠ d) (h : H' p = none) : H p = none := by
  cases q : H p with
  | none => rfl
  | some o => have := e p o n q; rw [h] at this; cases this
def sp__law_draws (K : PySem.W.Frag) (mg : WP.MG) : Sp := fun vs H Q _ => ∃ (a : Addr) (ns : List Int), vs = [.ref a] ∧ SqL K H a (ns.map V.int) ∧ ∀ d z H', z.2 = ns → H z.1 = none → H d = none → Same H H' → DS K H' d z → Q (.ref d) H'
section
variable {P : Program} {w : World} {K : PySem.W.Frag} {mg : Str → Option Value} {base : Heap}
theorem ok__law_draws {f : Addr} {fd : FuncData} (F : Fun K "_law_draws" "_law_draws" s__law_draws f fd) (B : Blt w K mg)  : FnOk P w K mg base CX0 1 f fd ["script"] (sp__law_draws K mg) := by
  show D.Box _
  simp (discharger := (with_unfolding_all (
  refine F.ok sc__law_draws (fun vs H Q E h => ?_) (fun cdv A outer s H vs Q E hr h => ?_)
  · first | (obtain ⟨_, rfl, _⟩ := h; rfl) | (obtain ⟨_, _, rfl, _⟩ := h; rfl) | (obtain ⟨_, _, _, rfl, _⟩ := h; rfl) | (obtain ⟨_, _, _, _, rfl, _⟩ := h; rfl) | (obtain ⟨_, _, _, _, _, rfl, _⟩ := h; rfl) | (obtain ⟨_, _, _, _, _, _, rfl, _⟩ := h; rfl) | (obtain ⟨_, _, _, _, _, _, _, rfl, _⟩ := h; rfl) | (obtain ⟨_, _, _, _, _, _, _, _, rfl, _⟩ := h; rfl) | (obtain ⟨rfl, _⟩ := h; rfl)
  · obtain ⟨a, ns, rfl, ha, k⟩ := h
    refine ⟨_, (pss_one (ps_ret (pe_lst (WP.pa_consN (pe_callTy WP.c_listOf (by rfl) B.b_list (by decide +kernel) (WP.pa_consN (pv 0) pa_nil)) (WP.pa_consN pe_int (WP.pa_consN pe_int (WP.pa_consN pe_int pa_nil))))))), ?_⟩
    k_updF
    refine WP.listL ha (fun l hl => ?_)
    k_updF
    refine ⟨WP.sz (show 4 ≤ 1000000 by decide), fun d hd => ?_⟩
    have ne : l ≠ d := fun z => by subst z; rw [upd_same] at hd; cases hd
    exact k d (l, ns) _ rfl hl ((WP.same_new hl).free hd) ((WP.same_new hl).trans (WP.same_new hd)) ⟨0, 0, 1, upd_same, ne, by rw [upd_ne ne, upd_same], by decide⟩
  ))) only [D.box_eq]
end
abbrev s__law_draw : Stmt := top 36
abbrev N__law_draw : List Str := ["draws", "limit", "cell", "value"]
theorem sc__law_draw : FnScope N__law_draw ["draws", "limit"] (defScope s__law_draw) := ⟨rfl, rfl, rfl, by decide +kernel, rfl, by decide +kernel, by decide +kernel⟩
def sp__law_draw (K : PySem.W.Frag) (mg : WP.MG) : Sp := fun vs H Q _ => ∃ (d : Addr) (ns : DZ) (m : Int), vs = [.ref d, .int m] ∧ 0 < m ∧ WP.Bt m 8000 ∧ DS K H d ns ∧ ∀ v H', 0 ≤ v → v < m → WP.Sx d H H' → DS K H' d ns → Q (.int v) H'
section
variable {P : Program} {w : World} {K : PySem.W.Frag} {mg : Str → Option Value} {base : Heap}
theorem ok__law_draw {f : Addr} {fd : FuncData} (F : Fun K "_law_draw" "_law_draw" s__law_draw f fd) (B : Blt w K mg)  : FnOk P w K mg base CX0 1 f fd ["draws", "limit"] (sp__law_draw K mg) := by
  show D.Box _
  simp (discharger := (with_unfolding_all (
  refine F.ok sc__law_draw (fun vs H Q E h => ?_) (fun cdv A outer s H vs Q E hr h => ?_)
  · first | (obtain ⟨_, rfl, _⟩ := h; rfl) | (obtain ⟨_, _, rfl, _⟩ := h; rfl) | (obtain ⟨_, _, _, rfl, _⟩ := h; rfl) | (obtain ⟨_, _, _, _, rfl, _⟩ := h; rfl) | (obtain ⟨_, _, _, _, _, rfl, _⟩ := h; rfl) | (obtain ⟨_, _, _, _, _, _, rfl, _⟩ := h; rfl) | (obtain ⟨_, _, _, _, _, _, _, rfl, _⟩ := h; rfl) | (obtain ⟨_, _, _, _, _, _, _, _, rfl, _⟩ := h; rfl) | (obtain ⟨rfl, _⟩ := h; rfl)
  · obtain ⟨d, ns, m, rfl, hm, bm, hd, k⟩ := h
    refine ⟨_, (Evl.pss_cut (ps_if (PW.pt (pw_and (pt_cmpR op_eq (pe_ix ix_list (pv 0) pe_int (fun _ _ => rfl)) pe_int (nomark _)) (pw_and1 (pt_cmpR op_lt (pe_ix ix_list (pv 0) pe_int (fun _ _ => rfl)) (pe_callB WP.c_len (by rfl) B.b_len (by decide +kernel) (WP.pa_consN (pe_ix ix_list (pv 0) pe_int (fun _ _ => rfl)) pa_nil)) (nomark _))))) (pss_cons (ps_set (i := 2) sc__law_draw.nd rfl (Or.inl rfl) (pe_ix ix_list (pe_ix ix_list (pv 0) pe_int (fun _ _ => rfl)) (pe_ix ix_list (pv 0) pe_int (fun _ _ => rfl)) (fun _ _ => rfl)))
      (pss_cons (ps_asg (pe_op op_add (pe_ix ix_list (pv 0) pe_int (fun _ _ => rfl)) pe_int) (pg_sub (pv 0) pe_int set_list))
      (Evl.pss_cut (ps_if (pt_cmpR op_ge (pv 2) (pe_op op_pow pe_int pe_int) (nomark _)) (pss_one (ps_asg (pv 2) (pg_sub (pv 0) pe_int set_list))) pss_nil)
      (pss_one (ps_asg (pe_op op_mod (pe_callTy WP.c_int1 (by rfl) B.b_int (by decide +kernel) (WP.pa_consN (pe_op op_add (pe_op op_add (pe_op op_mul (pe_ix ix_list (pv 0) pe_int (fun _ _ => rfl)) pe_int) (pv 2)) pe_int) pa_nil)) pe_int) (pg_sub (pv 0) pe_int set_list)))))) pss_nil)
      (pss_cons (ps_if (pt_cmpR op_gt (pe_ix ix_list (pv 0) pe_int (fun _ _ => rfl)) pe_int (nomark _)) (pss_cons (ps_set (i := 3) sc__law_draw.nd rfl (Or.inl rfl) (pe_op op_mod (pe_callTy WP.c_int1 (by rfl) B.b_int (by decide +kernel) (WP.pa_consN (pe_ix ix_list (pv 0) pe_int (fun _ _ => rfl)) pa_nil)) (pv 1)))
      (pss_cons (ps_asg (pe_op op_fdivW (pe_ix ix_list (pv 0) pe_int (fun _ _ => rfl)) (pv 1)) (pg_sub (pv 0) pe_int set_list))
      (pss_one (ps_ret (pv 3))))) pss_nil)
      (pss_cons (ps_asg (pe_op op_mod (pe_callTy WP.c_int1 (by rfl) B.b_int (by decide +kernel) (WP.pa_consN (pe_op op_add (pe_op op_mul (pe_ix ix_list (pv 0) pe_int (fun _ _ => rfl)) pe_int) pe_int) pa_nil)) pe_int) (pg_sub (pv 0) pe_int set_list))
      (pss_one (ps_ret (pe_op op_mod (pe_callTy WP.c_int1 (by rfl) B.b_int (by decide +kernel) (WP.pa_consN (pe_op op_fdiv (pe_ix ix_list (pv 0) pe_int (fun _ _ => rfl)) pe_int) pa_nil)) (pv 1))))))), ?_⟩
    obtain ⟨l, ns⟩ := ns
    obtain ⟨pos, cur, mix, h1, h2, h3, h4⟩ := hd
    have h3 : SqL K H l (ns.map V.int) := SqL.of h3
    have h3' : H l = some (.lst (ns.map V.int)) := by assumption
    refine WP.cut (fun σ' H' => (∃ z z2, σ' = [some (.ref d), some (.int m), z, z2]) ∧ WP.Sx d H H' ∧ DS K H' d (l, ns)) ?_ ?_
    · k_updF
      refine WP.ixL (SqL.of h1) WP.at2 ?_
      k_updF
      have hD : DS K H d (l, ns) := ⟨pos, cur, mix, h1, h2, h3', h4⟩
      refine WP.br (fun c => ?_) (fun c => ?_)
      · k_updF
        refine WP.ixL (SqL.of h1) WP.at1 ?_
        k_updF
        refine WP.ixL (SqL.of h1) WP.at0 ?_
        k_updF
        refine WP.lenL h3 ?_
        k_updF
        refine WP.br (fun c2 => ?_) (fun c2 => ?_)
        · k_updF
          rw [List.length_map] at c2
          refine WP.ixL (SqL.of h1) WP.at0 ?_
          k_updF
          refine WP.ixL (SqL.of h1) WP.at1 ?_
          refine WP.ixL h3 (WP.at_ints h4 c2) ?_
          k_updF
          generalize ns.getD pos.toNat 0 = cell
          refine WP.ixL (SqL.of h1) WP.at1 ?_
          k_updF
          refine WP.setL h1 rfl ?_
          generalize hH1 : upd H d _ = H1
          have g1 : H1 d = some (.lst [.ref l, .int (pos + 1), .int cur, .int mix]) := by rw [← hH1, upd_same]; rfl
          have s1 : WP.Sx d H H1 := by rw [← hH1]; exact WP.Sx.upd
          have l1 := WP.sqlX (K := K) s1 h2 h3
          clear hH1
          refine WP.cut (fun σ' H' => σ' = [some (.ref d), some (.int m), some (.int cell), none] ∧ WP.Sx d H H' ∧ ∃ cur, H' d = some (.lst [.ref l, .int (pos + 1), .int cur, .int mix])) ?_ ?_
          · k_updF
            refine WP.iC ⟨by decide, by decide, by decide⟩ ?_
            k_updF
            refine WP.br (fun c => ?_) (fun c => ?_)
            · k_updF
              refine WP.setL g1 rfl ?_
              exact ⟨rfl, s1.trans WP.Sx.upd, cell, by rw [upd_same]; rfl⟩
            · k_updF
              exact ⟨rfl, s1, cur, g1⟩
          · rintro σ' H2 ⟨rfl, s2, cur2, g2⟩
            have l2 := WP.sqlX (K := K) s2 h2 h3
            k_updF
            refine WP.ixL (SqL.of g2) WP.at3 ?_
            k_updF
            refine WP.iC (.inr (by decide)) ?_
            k_updF
            refine WP.intI ?_
            k_updF
            refine WP.iC (by decide) ?_
            k_updF
            refine WP.setL g2 rfl ?_
            refine ⟨⟨_, _, rfl⟩, s2.trans WP.Sx.upd, pos + 1, cur2, _, by rw [upd_same]; rfl, h2, (s2.trans WP.Sx.upd) l _ h2 h3', by omega⟩
        · k_updF
          exact ⟨⟨_, _, rfl⟩, WP.Sx.refl, hD⟩
      · k_updF
        refine WP.brF rfl ?_
        k_updF
        exact ⟨⟨_, _, rfl⟩, WP.Sx.refl, hD⟩
    clear h1 h2 h3 h3' h4 pos cur mix
    rintro σ' H1 ⟨⟨z, z2, rfl⟩, s1, pos, cur, mix, h1, h2, h3', h4⟩
    have h3 : SqL K H1 l (ns.map V.int) := SqL.of h3'
    k_updF
    refine WP.ixL (SqL.of h1) WP.at2 ?_
    k_updF
    refine WP.br (fun c => ?_) (fun c => ?_)
    · k_updF
      refine WP.ixL (SqL.of h1) WP.at2 ?_
      k_updF
      refine WP.intI ?_
      k_updF
      refine WP.iC hm ?_
      k_updF
      refine WP.ixL (SqL.of h1) WP.at2 ?_
      k_updF
      refine WP.iC (WP.Bt.d' hm bm) ?_
      k_updF
      refine WP.setL h1 rfl ?_
      k_updF
      exact k _ _ (Int.emod_nonneg _ (by omega)) (Int.emod_lt_of_pos _ hm) (s1.trans WP.Sx.upd) ⟨pos, _, mix, by rw [upd_same]; rfl, h2, WP.Sx.upd l _ h2 h3', h4⟩
    · k_updF
      refine WP.ixL (SqL.of h1) WP.at3 ?_
      k_updF
      refine WP.iC (.inr (by decide)) ?_
      k_updF
      refine WP.intI ?_
      k_updF
      refine WP.iC (by decide) ?_
      k_updF
      refine WP.setL h1 rfl ?_
      k_updF
      refine WP.ixL (SqL.of upd_same) WP.at3 ?_
      k_updF
      refine WP.iC ⟨by decide, by decide⟩ ?_
      k_updF
      refine WP.intI ?_
      k_updF
      refine WP.iC hm ?_
      exact k _ _ (Int.emod_nonneg _ (by omega)) (Int.emod_lt_of_pos _ hm) (s1.trans WP.Sx.upd) ⟨pos, cur, _, by rw [upd_same]; rfl, h2, WP.Sx.upd l _ h2 h3', h4⟩
  ))) only [D.box_eq]
end
abbrev s__law_figures : Stmt := top 45
abbrev N__law_figures : List Str := ["draws", "size", "figures", "k"]
theorem sc__law_figures : FnScope N__law_figures ["draws", "size"] (defScope s__law_figures) := ⟨rfl, rfl, rfl, by decide +kernel, rfl, by decide +kernel, by decide +kernel⟩
def sp__law_figures (K : PySem.W.Frag) (mg : WP.MG) : Sp := fun vs H Q _ => ∃ (d : Addr) (ns : DZ) (n : Nat), vs = [.ref d, .int (n : Int)] ∧ n ≤ 60 ∧ DS K H d ns ∧ ∀ (l : List Nat) (H' : Hp), l.length = n → (∀ c ∈ l, 48 ≤ c ∧ c ≤ 57) → WP.Sx d H H' → DS K H' d ns → Q (.str (SX.S l)) H'
section
variable {P : Program} {w : World} {K : PySem.W.Frag} {mg : Str → Option Value} {base : Heap}
theorem ok__law_figures {f : Addr} {fd : FuncData} (F : Fun K "_law_figures" "_law_figures" s__law_figures f fd) (B : Blt w K mg) (c__law_draw : WP.Callee P w K mg base CX0 1 "_law_draw" ["draws", "limit"] (sp__law_draw K mg)) : FnOk P w K mg base CX0 2 f fd ["draws", "size"] (sp__law_figures K mg) := by
  show D.Box _
  simp (discharger := (with_unfolding_all (
  refine F.ok sc__law_figures (fun vs H Q E h => ?_) (fun cdv A outer s H vs Q E hr h => ?_)
  · first | (obtain ⟨_, rfl, _⟩ := h; rfl) | (obtain ⟨_, _, rfl, _⟩ := h; rfl) | (obtain ⟨_, _, _, rfl, _⟩ := h; rfl) | (obtain ⟨_, _, _, _, rfl, _⟩ := h; rfl) | (obtain ⟨_, _, _, _, _, rfl, _⟩ := h; rfl) | (obtain ⟨_, _, _, _, _, _, rfl, _⟩ := h; rfl) | (obtain ⟨_, _, _, _, _, _, _, rfl, _⟩ := h; rfl) | (obtain ⟨_, _, _, _, _, _, _, _, rfl, _⟩ := h; rfl) | (obtain ⟨rfl, _⟩ := h; rfl)
  · obtain ⟨d, ns, n, rfl, hn, hd, k⟩ := h
    refine ⟨_, (pss_cons (ps_set (i := 2) sc__law_figures.nd rfl (Or.inl rfl) (WP.pe_strL [] (by decide +kernel)))
      (pss_cons (ps_for PassesOwn.never rfl (pi_range1 rfl B.b_range (WP.pa_consN (pv 1) pa_nil)) (pg_name (i := 3) sc__law_figures.nd rfl (Or.inl rfl)) (pss_one (ps_set (i := 2) sc__law_figures.nd rfl (Or.inl rfl) (pe_op WP.op_addS (pv 2) (pe_ix ix_str (WP.pe_strL [48, 49, 50, 51, 52, 53, 54, 55, 56, 57] (by decide +kernel)) (WP.pe_callC c__law_draw hr rfl pass0 (WP.pa_consN (pv 0) (WP.pa_consN pe_int pa_nil))) (fun _ _ => rfl))))))
      (pss_one (ps_ret (pv 2))))), ?_⟩
    k_updF
    refine ⟨_, rfl, by omega, by omega, for_range (lo := 0) (n := _) (fun i σ' H' => WP.Sx d H H' ∧ DS K H' d ns ∧ ∃ (l : List Nat) (z : Option V), σ' = [some (.ref d), some (.int (n : Int)), some (.str (SX.S l)), z] ∧ l.length = i ∧ ∀ c ∈ l, 48 ≤ c ∧ c ≤ 57) ⟨.refl, hd, [], none, rfl, rfl, fun c h => nomatch h⟩ ?_ ?_⟩
    · rintro i σ' H1 hi ⟨s1, hd1, l, z, rfl, hl, ok⟩
      rw [Int.toNat_natCast] at hi
      k_updF
      refine ⟨d, ns, _, rfl, by decide, WP.bt8 (by decide), hd1, fun v H2 v0 v1 s2 hd2 => ?_⟩
      obtain ⟨q, hq, hqa⟩ := WP.at_C (l := [48, 49, 50, 51, 52, 53, 54, 55, 56, 57]) v0 v1
      refine WP.ixS1 hqa (by rw [sizeLine_eq]; decide) ?_
      refine WP.catS ?_ (by rw [sizeLine_eq]; show _ + 1 ≤ _; omega)
      k_updF
      refine ⟨s1.trans s2, hd2, l ++ [q], _, rfl, by rw [List.length_append, hl]; rfl, fun c hc => ?_⟩
      rcases List.mem_append.mp hc with e | e
      · exact ok c e
      · rw [List.mem_singleton.mp e]
        have key : ∀ q ∈ [48, 49, 50, 51, 52, 53, 54, 55, 56, 57], 48 ≤ q ∧ q ≤ 57 := by decide
        exact key q hq
    rintro σ' H1 ⟨s1, hd1, l, z, rfl, hl, ok⟩
    rw [Int.toNat_natCast] at hl
    k_updF
    exact k l H1 hl ok s1 hd1
  ))) only [D.box_eq]
end
abbrev s__law_characters : Stmt := top 40
abbrev N__law_characters : List Str := ["draws", "most", "marks", "size", "string", "k", "mark"]
theorem sc__law_characters : FnScope N__law_characters ["draws", "most"] (defScope s__law_characters) := ⟨rfl, rfl, rfl, by decide +kernel, rfl, by decide +kernel, by decide +kernel⟩
def QUO : V := .str (SX.S [113, 117, 111, 116, 101])
def CHR : V := .str (SX.S [99, 104, 97, 114, 97, 99, 116, 101, 114])
def sp__law_characters (K : PySem.W.Frag) (mg : WP.MG) : Sp := fun vs H Q _ => ∃ (d : Addr) (ns : DZ) (m : Nat), vs = [.ref d, .int (m : Int)] ∧ m ≤ 200 ∧ DS K H d ns ∧ ∀ (l : List Nat) (H' : Hp), l.length ≤ max 5 m → (∀ c ∈ l, 32 ≤ c ∧ c ≤ 126 ∧ c ≠ 37) → WP.Sx d H H' → DS K H' d ns → Q (.str (SX.S l)) H'
section
variable {P : Program} {w : World} {K : PySem.W.Frag} {mg : Str → Option Value} {base : Heap}
theorem ok__law_characters {f : Addr} {fd : FuncData} (F : Fun K "_law_characters" "_law_characters" s__law_characters f fd) (B : Blt w K mg) (c__law_draw : WP.Callee P w K mg base CX0 1 "_law_draw" ["draws", "limit"] (sp__law_draw K mg)) : FnOk P w K mg base CX0 2 f fd ["draws", "most"] (sp__law_characters K mg) := by
  show D.Box _
  simp (discharger := (with_unfolding_all (
  refine F.ok sc__law_characters (fun vs H Q E h => ?_) (fun cdv A outer s H vs Q E hr h => ?_)
  · first | (obtain ⟨_, rfl, _⟩ := h; rfl) | (obtain ⟨_, _, rfl, _⟩ := h; rfl) | (obtain ⟨_, _, _, rfl, _⟩ := h; rfl) | (obtain ⟨_, _, _, _, rfl, _⟩ := h; rfl) | (obtain ⟨_, _, _, _, _, rfl, _⟩ := h; rfl) | (obtain ⟨_, _, _, _, _, _, rfl, _⟩ := h; rfl) | (obtain ⟨_, _, _, _, _, _, _, rfl, _⟩ := h; rfl) | (obtain ⟨_, _, _, _, _, _, _, _, rfl, _⟩ := h; rfl) | (obtain ⟨rfl, _⟩ := h; rfl)
  · obtain ⟨d, ns, m, rfl, hm, hd, k⟩ := h
    refine ⟨_, (pss_cons (ps_set (i := 2) sc__law_characters.nd rfl (Or.inl rfl) (WP.pe_strL [32, 33, 34, 35, 36, 38, 40, 41, 42, 43, 44, 45, 46, 47, 48, 49, 50, 51, 52, 53, 54, 55, 56, 57, 58, 59, 60, 61, 62, 63, 64, 65, 66, 67, 68, 69, 70, 71, 72, 73, 74, 75, 76, 77, 78, 79, 80, 81, 82, 83, 84, 85, 86, 87, 88, 89, 90, 91, 92, 93, 94, 95, 96] (by decide +kernel)))
      (pss_cons (ps_set (i := 2) sc__law_characters.nd rfl (Or.inl rfl) (pe_op WP.op_addS (pv 2) (WP.pe_strL [97, 98, 99, 100, 101, 102, 103, 104, 105, 106, 107, 108, 109, 110, 111, 112, 113, 114, 115, 116, 117, 118, 119, 120, 121, 122, 123, 124, 125, 126, 39] (by decide +kernel))))
      (pss_cons (ps_set (i := 3) sc__law_characters.nd rfl (Or.inl rfl) (WP.pe_callC c__law_draw hr rfl pass0 (WP.pa_consN (pv 0) (WP.pa_consN pe_int pa_nil))))
      (Evl.pss_cut (ps_if (pt_cmpR op_eq (WP.pe_callC c__law_draw hr rfl pass0 (WP.pa_consN (pv 0) (WP.pa_consN pe_int pa_nil))) pe_int (nomark _)) (pss_one (ps_set (i := 3) sc__law_characters.nd rfl (Or.inl rfl) (WP.pe_callC c__law_draw hr rfl pass0 (WP.pa_consN (pv 0) (WP.pa_consN (pe_op op_add (pv 1) pe_int) pa_nil))))) pss_nil)
      (pss_cons (ps_set (i := 4) sc__law_characters.nd rfl (Or.inl rfl) (WP.pe_strL [] (by decide +kernel)))
      (pss_cons (ps_for PassesOwn.never rfl (pi_range1 rfl B.b_range (WP.pa_consN (pv 3) pa_nil)) (pg_name (i := 5) sc__law_characters.nd rfl (Or.inl rfl)) (pss_cons (ps_set (i := 6) sc__law_characters.nd rfl (Or.inl rfl) (pe_ix ix_str (pv 2) (WP.pe_callC c__law_draw hr rfl pass0 (WP.pa_consN (pv 0) (WP.pa_consN (pe_callB WP.c_len (by rfl) B.b_len (by decide +kernel) (WP.pa_consN (pv 2) pa_nil)) pa_nil))) (fun _ _ => rfl)))
      (Evl.pss_cut (ps_if (pt_cmpR op_eq (WP.pe_callC c__law_draw hr rfl pass0 (WP.pa_consN (pv 0) (WP.pa_consN pe_int pa_nil))) pe_int (nomark _)) (pss_one (ps_set (i := 6) sc__law_characters.nd rfl (Or.inl rfl) (WP.pe_strL [39] (by decide +kernel)))) pss_nil)
      (pss_one (ps_set (i := 4) sc__law_characters.nd rfl (Or.inl rfl) (pe_op WP.op_addS (pv 4) (pv 6)))))))
      (pss_one (ps_ret (pv 4))))))))), ?_⟩
    k_updF
    refine WP.catS (a := MK.MA) (b := MK.MB) ?_ (by rw [sizeLine_eq]; decide)
    have hMl : (MK.MA ++ MK.MB).length ≤ sizeLine := by rw [sizeLine_eq]; decide
    have hM1 : 1 ≤ (MK.MA ++ MK.MB).length := by decide
    have hM2 : (MK.MA ++ MK.MB).length ≤ 200 := by decide
    have hok := MK.ma_ok
    generalize MK.MA ++ MK.MB = M at hMl hM1 hM2 hok ⊢
    k_updF
    refine ⟨d, ns, _, rfl, by decide, WP.bt8 (by decide), hd, fun z0 H1 z00 z01 s1 hd1 => ?_⟩
    k_updF
    refine WP.cut (fun σ' H' => WP.Sx d H H' ∧ DS K H' d ns ∧ ∃ n : Nat, n ≤ max 5 m ∧ σ' = [some (.ref d), some (.int (m : Int)), some (.str (SX.S M)), some (.int (n : Int)), none, none, none]) ?_ ?_
    · k_updF
      refine ⟨d, ns, _, rfl, by decide, WP.bt8 (by decide), hd1, fun v H2 v0 v1 s2 hd2 => ?_⟩
      k_updF
      refine WP.br (fun c => ?_) (fun c => ?_)
      · k_updF
        refine ⟨d, ns, _, rfl, by omega, WP.bt8 (by omega), hd2, fun v H3 v0 v1 s3 hd3 => ?_⟩
        k_updF
        exact ⟨(s1.trans s2).trans s3, hd3, v.toNat, by omega, by rw [Int.toNat_of_nonneg v0]; rfl⟩
      · k_updF
        exact ⟨s1.trans s2, hd2, z0.toNat, by omega, by rw [Int.toNat_of_nonneg z00]; rfl⟩
    clear s1 hd1 hd
    rintro σ' H1 ⟨s1, hd1, n, hn, rfl⟩
    k_updF
    refine ⟨_, rfl, by omega, by omega, for_range (lo := 0) (n := _) (fun i σ' H' => WP.Sx d H H' ∧ DS K H' d ns ∧ ∃ (l : List Nat) (z z2 : Option V), σ' = [some (.ref d), some (.int (m : Int)), some (.str (SX.S M)), some (.int (n : Int)), some (.str (SX.S l)), z, z2] ∧ l.length = i ∧ ∀ c ∈ l, 32 ≤ c ∧ c ≤ 126 ∧ c ≠ 37)
      ⟨s1, hd1, [], none, none, rfl, rfl, fun c h => by cases h⟩ ?_ ?_⟩
    · rintro i σ' H2 hi ⟨s2, hd2, l, z, z2, rfl, hl, ok⟩
      rw [Int.toNat_natCast] at hi
      k_updF
      refine WP.lenS' hMl ?_
      k_updF
      refine ⟨d, ns, _, rfl, by omega, WP.bt8 (by omega), hd2, fun v H3 v0 v1 s3 hd3 => ?_⟩
      obtain ⟨q, hq, hqa⟩ := WP.at_C v0 v1
      refine WP.ixS1 hqa hMl ?_
      k_updF
      refine WP.cut (fun σ' H' => WP.Sx d H H' ∧ DS K H' d ns ∧ ∃ (q : Nat) (z : Option V), (32 ≤ q ∧ q ≤ 126 ∧ q ≠ 37) ∧ σ' = [some (.ref d), some (.int (m : Int)), some (.str (SX.S M)), some (.int (n : Int)), some (.str (SX.S l)), z, some (.str (SX.S [q]))]) ?_ ?_
      · k_updF
        refine ⟨d, ns, _, rfl, by decide, WP.bt8 (by decide), hd3, fun v H4 v0 v1 s4 hd4 => ?_⟩
        k_updF
        refine WP.br (fun c => ?_) (fun c => ?_)
        · k_updF
          exact ⟨(s2.trans s3).trans s4, hd4, 39, _, by decide, rfl⟩
        · k_updF
          exact ⟨(s2.trans s3).trans s4, hd4, q, _, hok q hq, rfl⟩
      rintro σ' H4 ⟨s4, hd4, q, z, hq, rfl⟩
      k_updF
      refine WP.catS (a := l) (b := [q]) ?_ (by rw [sizeLine_eq]; show _ + 1 ≤ _; omega)
      k_updF
      refine ⟨s4, hd4, l ++ [q], _, _, rfl, by rw [List.length_append, hl]; rfl, fun c hc => ?_⟩
      rcases List.mem_append.mp hc with e | e
      · exact ok c e
      · rw [List.mem_singleton.mp e]; exact hq
    rintro σ' H2 ⟨s2, hd2, l, z, z2, rfl, hl, ok⟩
    rw [Int.toNat_natCast] at hl
    k_updF
    exact k l H2 (by omega) ok s2 hd2
  ))) only [D.box_eq]
end
abbrev s__law_reserved : Stmt := top 38
abbrev N__law_reserved : List Str := ["words"]
theorem sc__law_reserved : FnScope N__law_reserved [] (defScope s__law_reserved) := ⟨rfl, rfl, rfl, by decide +kernel, rfl, by decide +kernel, by decide +kernel⟩
/-- the reserved words -/
def rsvA : List (List Nat) := [[112, 114, 111, 103, 114, 97, 109], [100, 97, 116, 97], [102, 105, 108, 101, 115], [112, 114, 111, 99, 101, 100, 117, 114, 101], [112, 105, 99, 116, 117, 114, 101], [111, 99, 99, 117, 114, 115], [118, 97, 108, 117, 101], [105, 110, 112, 117, 116], [111, 117, 116, 112, 117, 116], [114, 101, 99, 111, 114, 100], [109, 111, 118, 101], [116, 111]]
def rsvB : List (List Nat) := [[115, 101, 116], [114, 111, 117, 110, 100, 101, 100], [101, 108, 115, 101], [101, 110, 100], [100, 105, 118, 105, 100, 101], [98, 121], [103, 105, 118, 105, 110, 103], [114, 101, 109, 97, 105, 110, 100, 101, 114], [105, 102], [116, 104, 101, 110], [112, 101, 114, 102, 111, 114, 109], [116, 104, 114, 117]]
def rsvC : List (List Nat) := [[116, 105, 109, 101, 115], [117, 110, 116, 105, 108], [118, 97, 114, 121, 105, 110, 103], [102, 114, 111, 109], [114, 101, 97, 100], [97, 116], [98, 97, 100], [119, 114, 105, 116, 101], [115, 104, 111, 119], [115, 111, 114, 116], [100, 101, 115, 99, 101, 110, 100, 105, 110, 103], [99, 108, 101, 97, 114]]
def rsvD : List (List Nat) := [[115, 116, 111, 112], [110, 111, 116], [97, 110, 100], [111, 114], [100, 105, 103, 105, 116, 115], [116, 101, 120, 116]]
def rsv : List (List Nat) := rsvA ++ rsvB ++ rsvC ++ rsvD
def tL (ws : List (List Nat)) : List V := ws.map fun w => .str (SX.S w)
theorem tL_app (a b : List (List Nat)) : tL a ++ tL b = tL (a ++ b) := (List.map_append ..).symm
def sp__law_reserved (K : PySem.W.Frag) (mg : WP.MG) : Sp := fun vs H Q _ => vs = [] ∧ ∀ (p : Addr) (H' : Hp), H p = none → Same H H' → H' p = some (.lst (tL rsv)) → Q (.ref p) H'
section
variable {P : Program} {w : World} {K : PySem.W.Frag} {mg : Str → Option Value} {base : Heap}
theorem ok__law_reserved {f : Addr} {fd : FuncData} (F : Fun K "_law_reserved" "_law_reserved" s__law_reserved f fd) (B : Blt w K mg)  : FnOk P w K mg base CX0 1 f fd [] (sp__law_reserved K mg) := by
  show D.Box _
  simp (discharger := (with_unfolding_all (
  refine F.ok sc__law_reserved (fun vs H Q E h => ?_) (fun cdv A outer s H vs Q E hr h => ?_)
  · first | (obtain ⟨_, rfl, _⟩ := h; rfl) | (obtain ⟨_, _, rfl, _⟩ := h; rfl) | (obtain ⟨_, _, _, rfl, _⟩ := h; rfl) | (obtain ⟨_, _, _, _, rfl, _⟩ := h; rfl) | (obtain ⟨_, _, _, _, _, rfl, _⟩ := h; rfl) | (obtain ⟨_, _, _, _, _, _, rfl, _⟩ := h; rfl) | (obtain ⟨_, _, _, _, _, _, _, rfl, _⟩ := h; rfl) | (obtain ⟨_, _, _, _, _, _, _, _, rfl, _⟩ := h; rfl) | (obtain ⟨rfl, _⟩ := h; rfl)
  · obtain ⟨rfl, k⟩ := h
    refine ⟨_, (pss_cons (ps_set (i := 0) sc__law_reserved.nd rfl (Or.inl rfl) (pe_lst (WP.pa_consN (WP.pe_strL [112, 114, 111, 103, 114, 97, 109] (by decide +kernel)) (WP.pa_consN (WP.pe_strL [100, 97, 116, 97] (by decide +kernel)) (WP.pa_consN (WP.pe_strL [102, 105, 108, 101, 115] (by decide +kernel)) (WP.pa_consN (WP.pe_strL [112, 114, 111, 99, 101, 100, 117, 114, 101] (by decide +kernel)) (WP.pa_consN (WP.pe_strL [112, 105, 99, 116, 117, 114, 101] (by decide +kernel)) (WP.pa_consN (WP.pe_strL [111, 99, 99, 117, 114, 115] (by decide +kernel)) (WP.pa_consN (WP.pe_strL [118, 97, 108, 117, 101] (by decide +kernel)) (WP.pa_consN (WP.pe_strL [105, 110, 112, 117, 116] (by decide +kernel)) (WP.pa_consN (WP.pe_strL [111, 117, 116, 112, 117, 116] (by decide +kernel)) (WP.pa_consN (WP.pe_strL [114, 101, 99, 111, 114, 100] (by decide +kernel)) (WP.pa_consN (WP.pe_strL [109, 111, 118, 101] (by decide +kernel)) (WP.pa_consN (WP.pe_strL [116, 111] (by decide +kernel)) pa_nil))))))))))))))
      (pss_cons (ps_set (i := 0) sc__law_reserved.nd rfl (Or.inl rfl) (pe_op op_cat (pv 0) (pe_lst (WP.pa_consN (WP.pe_strL [115, 101, 116] (by decide +kernel)) (WP.pa_consN (WP.pe_strL [114, 111, 117, 110, 100, 101, 100] (by decide +kernel)) (WP.pa_consN (WP.pe_strL [101, 108, 115, 101] (by decide +kernel)) (WP.pa_consN (WP.pe_strL [101, 110, 100] (by decide +kernel)) (WP.pa_consN (WP.pe_strL [100, 105, 118, 105, 100, 101] (by decide +kernel)) (WP.pa_consN (WP.pe_strL [98, 121] (by decide +kernel)) (WP.pa_consN (WP.pe_strL [103, 105, 118, 105, 110, 103] (by decide +kernel)) (WP.pa_consN (WP.pe_strL [114, 101, 109, 97, 105, 110, 100, 101, 114] (by decide +kernel)) (WP.pa_consN (WP.pe_strL [105, 102] (by decide +kernel)) (WP.pa_consN (WP.pe_strL [116, 104, 101, 110] (by decide +kernel)) (WP.pa_consN (WP.pe_strL [112, 101, 114, 102, 111, 114, 109] (by decide +kernel)) (WP.pa_consN (WP.pe_strL [116, 104, 114, 117] (by decide +kernel)) pa_nil)))))))))))))))
      (pss_cons (ps_set (i := 0) sc__law_reserved.nd rfl (Or.inl rfl) (pe_op op_cat (pv 0) (pe_lst (WP.pa_consN (WP.pe_strL [116, 105, 109, 101, 115] (by decide +kernel)) (WP.pa_consN (WP.pe_strL [117, 110, 116, 105, 108] (by decide +kernel)) (WP.pa_consN (WP.pe_strL [118, 97, 114, 121, 105, 110, 103] (by decide +kernel)) (WP.pa_consN (WP.pe_strL [102, 114, 111, 109] (by decide +kernel)) (WP.pa_consN (WP.pe_strL [114, 101, 97, 100] (by decide +kernel)) (WP.pa_consN (WP.pe_strL [97, 116] (by decide +kernel)) (WP.pa_consN (WP.pe_strL [98, 97, 100] (by decide +kernel)) (WP.pa_consN (WP.pe_strL [119, 114, 105, 116, 101] (by decide +kernel)) (WP.pa_consN (WP.pe_strL [115, 104, 111, 119] (by decide +kernel)) (WP.pa_consN (WP.pe_strL [115, 111, 114, 116] (by decide +kernel)) (WP.pa_consN (WP.pe_strL [100, 101, 115, 99, 101, 110, 100, 105, 110, 103] (by decide +kernel)) (WP.pa_consN (WP.pe_strL [99, 108, 101, 97, 114] (by decide +kernel)) pa_nil)))))))))))))))
      (pss_one (ps_ret (pe_op op_cat (pv 0) (pe_lst (WP.pa_consN (WP.pe_strL [115, 116, 111, 112] (by decide +kernel)) (WP.pa_consN (WP.pe_strL [110, 111, 116] (by decide +kernel)) (WP.pa_consN (WP.pe_strL [97, 110, 100] (by decide +kernel)) (WP.pa_consN (WP.pe_strL [111, 114] (by decide +kernel)) (WP.pa_consN (WP.pe_strL [100, 105, 103, 105, 116, 115] (by decide +kernel)) (WP.pa_consN (WP.pe_strL [116, 101, 120, 116] (by decide +kernel)) pa_nil))))))))))))), ?_⟩
    k_updF
    refine ⟨WP.sz (show 12 ≤ 1000000 by decide), fun p1 h1 => ?_⟩
    generalize hG : upd H p1 _ = G1
    have e1 : Same H G1 := hG ▸ WP.same_new h1
    have g1 : G1 p1 = some (.lst (tL rsvA)) := by rw [← hG]; exact upd_same
    clear hG
    k_updF
    refine ⟨WP.sz (show 12 ≤ 1000000 by decide), fun p2 h2 => ?_⟩
    generalize hG : upd G1 p2 _ = G2
    have e2 : Same G1 G2 := hG ▸ WP.same_new h2
    have g2 : G2 p2 = some (.lst (tL rsvB)) := by rw [← hG]; exact upd_same
    clear hG
    refine WP.catLL (e2 _ _ g1) g2 (by decide) (fun p3 h3 => ?_)
    rw [tL_app]
    have e3 : Same G2 (upd G2 p3 (.lst (tL (rsvA ++ rsvB)))) := WP.same_new h3
    have g3 : (upd G2 p3 (.lst (tL (rsvA ++ rsvB)))) p3 = some (.lst (tL (rsvA ++ rsvB))) := upd_same
    generalize upd G2 p3 _ = G3 at e3 g3 ⊢
    k_updF
    refine ⟨WP.sz (show 12 ≤ 1000000 by decide), fun p4 h4 => ?_⟩
    generalize hG : upd G3 p4 _ = G4
    have e4 : Same G3 G4 := hG ▸ WP.same_new h4
    have g4 : G4 p4 = some (.lst (tL rsvC)) := by rw [← hG]; exact upd_same
    clear hG
    refine WP.catLL (e4 _ _ g3) g4 (by decide) (fun p5 h5 => ?_)
    rw [tL_app]
    have e5 : Same G4 (upd G4 p5 (.lst (tL (rsvA ++ rsvB ++ rsvC)))) := WP.same_new h5
    have g5 : (upd G4 p5 (.lst (tL (rsvA ++ rsvB ++ rsvC)))) p5 = some (.lst (tL (rsvA ++ rsvB ++ rsvC))) := upd_same
    generalize upd G4 p5 _ = G5 at e5 g5 ⊢
    k_updF
    refine ⟨WP.sz (show 6 ≤ 1000000 by decide), fun p6 h6 => ?_⟩
    generalize hG : upd G5 p6 _ = G6
    have e6 : Same G5 G6 := hG ▸ WP.same_new h6
    have g6 : G6 p6 = some (.lst (tL rsvD)) := by rw [← hG]; exact upd_same
    clear hG
    have e16 := ((((e1.trans e2).trans e3).trans e4).trans e5).trans e6
    refine WP.catLL (e6 _ _ g5) g6 (by decide) (fun p7 h7 => ?_)
    rw [tL_app]
    k_updF
    exact k p7 _ (e16.free h7) (e16.trans (WP.same_new h7)) upd_same
  ))) only [D.box_eq]
end
abbrev s__law_name : Stmt := top 39
abbrev N__law_name : List Str := ["draws", "letters", "size", "name", "k", "marks"]
theorem sc__law_name : FnScope N__law_name ["draws"] (defScope s__law_name) := ⟨rfl, rfl, rfl, by decide +kernel, rfl, by decide +kernel, by decide +kernel⟩
/-- a name that is drawn -/
structure NmOk (l : List Nat) : Prop where
  h : ∃ c r, l = c :: r ∧ 97 ≤ c ∧ c ≤ 122
  n : l.length ≤ 20
  c : ∀ c ∈ l, (97 ≤ c ∧ c ≤ 122) ∨ (48 ≤ c ∧ c ≤ 57) ∨ c = 45
  e : ∀ c, l.getLast? = some c → c ≠ 45
def LET : List Nat := [97, 98, 99, 100, 101, 102, 103, 104, 105, 106, 107, 108, 109, 110, 111, 112, 113, 114, 115, 116, 117, 118, 119, 120, 121, 122]
def DGT : List Nat := [48, 49, 50, 51, 52, 53, 54, 55, 56, 57]
theorem S_beq {a b : List Nat} : (SX.S a == SX.S b) = decide (a = b) := by
  by_cases h : a = b
  · subst h; rw [decide_eq_true rfl]; exact beq_self_eq_true _
  · rw [decide_eq_false h]
    refine beq_eq_false_iff_ne.mpr fun z => h ?_
    have : a.toArray = b.toArray := congrArg Str.cps z
    have := congrArg Array.toList this
    simpa using this
theorem inV_T {l : List Nat} : ∀ {ws : List (List Nat)}, inV (.str (SX.S l)) (tL ws) = decide (l ∈ ws)
  | [] => rfl
  | w :: ws => by
    show ((SX.S w == SX.S l) || inV (.str (SX.S l)) (tL ws)) = _
    rw [inV_T, S_beq]
    by_cases h : w = l
    · subst h; simp
    · have : ¬ l = w := fun z => h z.symm
      simp [h, this]
theorem flat_T : ∀ (ws : List (List Nat)), (tL ws).all flatV = true
  | [] => rfl
  | w :: ws => flat_T ws
theorem inT {K : PySem.W.Frag} {H : Hp} {p : Addr} {l : List Nat} {ws : List (List Nat)} {Q : VK} (h : SqL K H p (tL ws)) (q : Q (.bl (decide (l ∈ ws))) H) : rIn K false (.str (SX.S l)) (.ref p) H Q := ⟨p, _, rfl, .inl h, rfl, flat_T ws, by rw [inV_T]; exact q⟩
def sp__law_name (K : PySem.W.Frag) (mg : WP.MG) : Sp := fun vs H Q _ => ∃ (d : Addr) (ns : DZ), vs = [.ref d] ∧ DS K H d ns ∧ ∀ (l : List Nat) (H' : Hp), NmOk l → WP.Sx d H H' → DS K H' d ns → Q (.str (SX.S l)) H'
section
variable {P : Program} {w : World} {K : PySem.W.Frag} {mg : Str → Option Value} {base : Heap}
theorem ok__law_name {f : Addr} {fd : FuncData} (F : Fun K "_law_name" "_law_name" s__law_name f fd) (B : Blt w K mg) (c__law_draw : WP.Callee P w K mg base CX0 1 "_law_draw" ["draws", "limit"] (sp__law_draw K mg)) (c__law_reserved : WP.Callee P w K mg base CX0 1 "_law_reserved" [] (sp__law_reserved K mg)) : FnOk P w K mg base CX0 2 f fd ["draws"] (sp__law_name K mg) := by
  show D.Box _
  simp (discharger := (with_unfolding_all (
  refine F.ok sc__law_name (fun vs H Q E h => ?_) (fun cdv A outer s H vs Q E hr h => ?_)
  · first | (obtain ⟨_, rfl, _⟩ := h; rfl) | (obtain ⟨_, _, rfl, _⟩ := h; rfl) | (obtain ⟨_, _, _, rfl, _⟩ := h; rfl) | (obtain ⟨_, _, _, _, rfl, _⟩ := h; rfl) | (obtain ⟨_, _, _, _, _, rfl, _⟩ := h; rfl) | (obtain ⟨_, _, _, _, _, _, rfl, _⟩ := h; rfl) | (obtain ⟨_, _, _, _, _, _, _, rfl, _⟩ := h; rfl) | (obtain ⟨_, _, _, _, _, _, _, _, rfl, _⟩ := h; rfl) | (obtain ⟨rfl, _⟩ := h; rfl)
  · obtain ⟨d, ns, rfl, hd, k⟩ := h
    refine ⟨_, (pss_cons (ps_set (i := 1) sc__law_name.nd rfl (Or.inl rfl) (WP.pe_strL [97, 98, 99, 100, 101, 102, 103, 104, 105, 106, 107, 108, 109, 110, 111, 112, 113, 114, 115, 116, 117, 118, 119, 120, 121, 122] (by decide +kernel)))
      (pss_cons (ps_set (i := 2) sc__law_name.nd rfl (Or.inl rfl) (pe_op op_add pe_int (WP.pe_callC c__law_draw hr rfl pass0 (WP.pa_consN (pv 0) (WP.pa_consN pe_int pa_nil)))))
      (Evl.pss_cut (ps_if (pt_cmpR op_eq (WP.pe_callC c__law_draw hr rfl pass0 (WP.pa_consN (pv 0) (WP.pa_consN pe_int pa_nil))) pe_int (nomark _)) (pss_one (ps_set (i := 2) sc__law_name.nd rfl (Or.inl rfl) (pe_op op_add pe_int (WP.pe_callC c__law_draw hr rfl pass0 (WP.pa_consN (pv 0) (WP.pa_consN pe_int pa_nil)))))) pss_nil)
      (pss_cons (ps_set (i := 3) sc__law_name.nd rfl (Or.inl rfl) (pe_ix ix_str (pv 1) (WP.pe_callC c__law_draw hr rfl pass0 (WP.pa_consN (pv 0) (WP.pa_consN pe_int pa_nil))) (fun _ _ => rfl)))
      (pss_cons (ps_for PassesOwn.never rfl (pi_range1 rfl B.b_range (WP.pa_consN (pe_op op_sub (pv 2) pe_int) pa_nil)) (pg_name (i := 4) sc__law_name.nd rfl (Or.inl rfl)) (pss_cons (ps_set (i := 5) sc__law_name.nd rfl (Or.inl rfl) (pe_op WP.op_addS (pv 1) (WP.pe_strL [48, 49, 50, 51, 52, 53, 54, 55, 56, 57] (by decide +kernel))))
      (Evl.pss_cut (ps_if (pt_cmpR op_lt (pv 4) (pe_op op_sub (pv 2) pe_int) (nomark _)) (pss_one (ps_set (i := 5) sc__law_name.nd rfl (Or.inl rfl) (pe_op WP.op_addS (pv 5) (WP.pe_strL [45] (by decide +kernel))))) pss_nil)
      (pss_one (ps_set (i := 3) sc__law_name.nd rfl (Or.inl rfl) (pe_op WP.op_addS (pv 3) (pe_ix ix_str (pv 5) (WP.pe_callC c__law_draw hr rfl pass0 (WP.pa_consN (pv 0) (WP.pa_consN (pe_callB WP.c_len (by rfl) B.b_len (by decide +kernel) (WP.pa_consN (pv 5) pa_nil)) pa_nil))) (fun _ _ => rfl))))))))
      (pss_cons (ps_if (pt_cmpR op_in_seq (pv 3) (WP.pe_callC0 c__law_reserved hr rfl pass0) rfl) (pss_one (ps_ret (pe_op WP.op_addS (pv 3) (WP.pe_strL [48] (by decide +kernel))))) pss_nil)
      (pss_one (ps_ret (pv 3))))))))), ?_⟩
    k_updF
    refine ⟨d, ns, _, rfl, by decide, WP.bt8 (by decide), hd, fun v H1 v0 v1 s1 hd1 => ?_⟩
    k_updF
    refine WP.cut (fun σ' H' => WP.Sx d H H' ∧ DS K H' d ns ∧ ∃ n : Nat, 1 ≤ n ∧ n ≤ 20 ∧ σ' = [some (.ref d), some (.str (SX.S LET)), some (.int (n : Int)), none, none, none]) ?_ ?_
    · k_updF
      refine ⟨d, ns, _, rfl, by decide, WP.bt8 (by decide), hd1, fun w H2 w0 w1 s2 hd2 => ?_⟩
      k_updF
      refine WP.br (fun c => ?_) (fun c => ?_)
      · k_updF
        refine ⟨d, ns, _, rfl, by decide, WP.bt8 (by decide), hd2, fun u H3 u0 u1 s3 hd3 => ?_⟩
        k_updF
        exact ⟨(s1.trans s2).trans s3, hd3, (1 + u).toNat, by omega, by omega, by rw [Int.toNat_of_nonneg (by omega)]; rfl⟩
      · k_updF
        exact ⟨s1.trans s2, hd2, (1 + v).toNat, by omega, by omega, by rw [Int.toNat_of_nonneg (by omega)]; rfl⟩
    clear s1 hd1 hd
    rintro σ' H1 ⟨s1, hd1, n, n1, n20, rfl⟩
    k_updF
    refine ⟨d, ns, _, rfl, by decide, WP.bt8 (by decide), hd1, fun w H2 w0 w1 s2 hd2 => ?_⟩
    obtain ⟨c, hc, hca⟩ := WP.at_C (l := LET) w0 w1
    refine WP.ixS1 hca (by rw [sizeLine_eq]; decide) ?_
    have hcl : 97 ≤ c ∧ c ≤ 122 := (show ∀ c ∈ LET, 97 ≤ c ∧ c ≤ 122 by decide) c hc
    k_updF
    refine ⟨_, rfl, by omega, by omega, for_range (lo := 0) (n := _) (fun i σ' H' => WP.Sx d H H' ∧ DS K H' d ns ∧ ∃ (l : List Nat) (z4 z5 : Option V), σ' = [some (.ref d), some (.str (SX.S LET)), some (.int (n : Int)), some (.str (SX.S l)), z4, z5] ∧ l.length = i + 1 ∧ (∃ r, l = c :: r) ∧ (∀ c ∈ l, (97 ≤ c ∧ c ≤ 122) ∨ (48 ≤ c ∧ c ≤ 57) ∨ c = 45) ∧ (i + 1 = n → ∀ c, l.getLast? = some c → c ≠ 45))
      ⟨s1.trans s2, hd2, [c], none, none, rfl, rfl, ⟨[], rfl⟩, fun x hx => by rw [List.mem_singleton.mp hx]; exact .inl hcl, fun _ x hx => by have : c = x := Option.some.inj hx; omega⟩ ?_ ?_⟩
    · clear s1 s2 hd1 hd2
      rintro i σ' H3 hi ⟨s3, hd3, l, z4, z5, rfl, ll, lr, lc, le⟩
      have hi : i < n - 1 := by omega
      rw [Int.zero_add]
      k_updF
      refine WP.catS (a := LET) (b := DGT) ?_ (by rw [sizeLine_eq]; decide)
      k_updF
      refine WP.cut (fun σ' H' => H' = H3 ∧ ∃ M : List Nat, σ' = [some (.ref d), some (.str (SX.S LET)), some (.int (n : Int)), some (.str (SX.S l)), some (.int (i : Int)), some (.str (SX.S M))] ∧ ((M = LET ++ DGT ++ [45] ∧ i + 2 < n) ∨ (M = LET ++ DGT ∧ i + 2 = n))) ?_ ?_
      · k_updF
        refine WP.br (fun c2 => ?_) (fun c2 => ?_)
        · k_updF
          refine WP.catS (a := LET ++ DGT) (b := [45]) ?_ (by rw [sizeLine_eq]; decide)
          k_updF
          exact ⟨rfl, _, rfl, .inl ⟨rfl, by omega⟩⟩
        · k_updF
          exact ⟨rfl, _, rfl, .inr ⟨rfl, by omega⟩⟩
      rintro σ' H' ⟨rfl, M, rfl, hM⟩
      have hMl : 1 ≤ M.length ∧ M.length ≤ 37 := by rcases hM with ⟨rfl, _⟩ | ⟨rfl, _⟩ <;> decide
      have hMc : ∀ c ∈ M, (97 ≤ c ∧ c ≤ 122) ∨ (48 ≤ c ∧ c ≤ 57) ∨ c = 45 := by rcases hM with ⟨rfl, _⟩ | ⟨rfl, _⟩ <;> decide
      have hMe : i + 2 = n → ∀ c ∈ M, c ≠ 45 := fun h => by
        rcases hM with ⟨_, e⟩ | ⟨rfl, _⟩
        · omega
        · decide
      k_updF
      refine WP.lenS' (by rw [sizeLine_eq]; omega) ?_
      k_updF
      refine ⟨d, ns, _, rfl, by omega, WP.bt8 (by omega), hd3, fun u H4 u0 u1 s4 hd4 => ?_⟩
      obtain ⟨q, hq, hqa⟩ := WP.at_C u0 u1
      refine WP.ixS1 hqa (by rw [sizeLine_eq]; omega) ?_
      refine WP.catS (a := l) (b := [q]) ?_ (by rw [sizeLine_eq]; show _ + 1 ≤ _; omega)
      k_updF
      obtain ⟨r, er⟩ := lr
      refine ⟨s3.trans s4, hd4, l ++ [q], _, _, rfl, by rw [List.length_append, ll]; rfl, ⟨r ++ [q], by rw [er]; rfl⟩, fun x hx => ?_, fun hn x hx => ?_⟩
      · rcases List.mem_append.mp hx with hx | hx
        · exact lc x hx
        · rw [List.mem_singleton.mp hx]; exact hMc q hq
      · rw [List.getLast?_concat] at hx
        have := Option.some.inj hx
        rw [← this]; exact hMe hn q hq
    clear s1 s2 hd1 hd2
    rintro σ' H3 ⟨s3, hd3, l, z4, z5, rfl, ll, ⟨r, er⟩, lc, le⟩
    have ll : l.length = n := by omega
    have le := le (by omega)
    k_updF
    refine ⟨rfl, fun p H4 hp e4 gp => ?_⟩
    refine inT (SqL.of gp) ?_
    k_updF
    refine WP.br (fun c2 => ?_) (fun c2 => ?_)
    · have hr : l.length ≤ 10 := (show ∀ w ∈ rsv, w.length ≤ 10 by decide) l c2
      k_updF
      refine WP.catS (a := l) (b := [48]) ?_ (by rw [sizeLine_eq]; show _ + 1 ≤ _; omega)
      refine k (l ++ [48]) H4 ⟨⟨c, r ++ [48], by rw [er]; rfl, hcl⟩, by rw [List.length_append, List.length_singleton]; omega, fun x hx => ?_, fun x hx => ?_⟩ (s3.trans (.of e4)) (hd3.same e4)
      · rcases List.mem_append.mp hx with hx | hx
        · exact lc x hx
        · rw [List.mem_singleton.mp hx]; exact .inr (.inl (by decide))
      · rw [List.getLast?_concat] at hx
        have := Option.some.inj hx
        omega
    · k_updF
      exact k l H4 ⟨⟨c, r, er, hcl⟩, by omega, lc, le⟩ (s3.trans (.of e4)) (hd3.same e4)
  ))) only [D.box_eq]
end
abbrev s__law_token : Stmt := top 46
abbrev N__law_token : List Str := ["draws", "kind", "figures"]
theorem sc__law_token : FnScope N__law_token ["draws"] (defScope s__law_token) := ⟨rfl, rfl, rfl, by decide +kernel, rfl, by decide +kernel, by decide +kernel⟩
theorem NmOk.word {l : List Nat} (h : NmOk l) : WordOk l := by
  obtain ⟨c, r, e, _⟩ := h.h
  have hn := h.n
  refine ⟨by rw [e]; exact Nat.le_add_left _ _, by omega, fun x hx => ?_⟩
  have := h.c x hx
  omega
theorem rsv_word : ∀ w ∈ rsv, WordOk w := by
  have key : ∀ w ∈ rsv, 1 ≤ w.length ∧ w.length ≤ 60 ∧ ∀ c ∈ w, 33 ≤ c ∧ c ≤ 126 ∧ c ≠ 37 ∧ c ≠ 39 := by decide +kernel
  exact key
theorem dg_word {l : List Nat} (h1 : 1 ≤ l.length) (h2 : l.length ≤ 60) (h : ∀ c ∈ l, 48 ≤ c ∧ c ≤ 57) : WordOk l := ⟨h1, h2, fun c hc => by have := h c hc; omega⟩
theorem wd_app {a b : List Nat} (ha : ∀ c ∈ a, 33 ≤ c ∧ c ≤ 126 ∧ c ≠ 37 ∧ c ≠ 39) (hb : ∀ c ∈ b, 33 ≤ c ∧ c ≤ 126 ∧ c ≠ 37 ∧ c ≠ 39) : ∀ c ∈ a ++ b, 33 ≤ c ∧ c ≤ 126 ∧ c ≠ 37 ∧ c ≠ 39 := fun c hc => (List.mem_append.mp hc).elim (ha c) (hb c)
theorem dg_c {l : List Nat} (h : ∀ c ∈ l, 48 ≤ c ∧ c ≤ 57) : ∀ c ∈ l, 33 ≤ c ∧ c ≤ 126 ∧ c ≠ 37 ∧ c ≠ 39 := fun c hc => by have := h c hc; omega
def TkOk (b : Bool) (w : List Nat) : Prop := (b = false → WordOk w) ∧ (b = true → StrOk w ∧ w.length ≤ 100)
def sp__law_token (K : PySem.W.Frag) (mg : WP.MG) : Sp := fun vs H Q _ => ∃ (d : Addr) (ns : DZ), vs = [.ref d] ∧ DS K H d ns ∧ ∀ (p : Addr) (b : Bool) (w : List Nat) (H' : Hp), TkOk b w → WP.Sx d H H' → DS K H' d ns → SqT K H' p [.str (SX.S (kwd b)), .str (SX.S w)] → Q (.ref p) H'
section
variable {P : Program} {w : World} {K : PySem.W.Frag} {mg : Str → Option Value} {base : Heap}
theorem ok__law_token {f : Addr} {fd : FuncData} (F : Fun K "_law_token" "_law_token" s__law_token f fd) (B : Blt w K mg) (c__law_draw : WP.Callee P w K mg base CX0 1 "_law_draw" ["draws", "limit"] (sp__law_draw K mg)) (c__law_figures : WP.Callee P w K mg base CX0 2 "_law_figures" ["draws", "size"] (sp__law_figures K mg)) (c__law_characters : WP.Callee P w K mg base CX0 2 "_law_characters" ["draws", "most"] (sp__law_characters K mg)) (c__law_name : WP.Callee P w K mg base CX0 2 "_law_name" ["draws"] (sp__law_name K mg)) (c__law_reserved : WP.Callee P w K mg base CX0 1 "_law_reserved" [] (sp__law_reserved K mg)) : FnOk P w K mg base CX0 3 f fd ["draws"] (sp__law_token K mg) := by
  show D.Box _
  simp (discharger := (with_unfolding_all (
  refine F.ok sc__law_token (fun vs H Q E h => ?_) (fun cdv A outer s H vs Q E hr h => ?_)
  · first | (obtain ⟨_, rfl, _⟩ := h; rfl) | (obtain ⟨_, _, rfl, _⟩ := h; rfl) | (obtain ⟨_, _, _, rfl, _⟩ := h; rfl) | (obtain ⟨_, _, _, _, rfl, _⟩ := h; rfl) | (obtain ⟨_, _, _, _, _, rfl, _⟩ := h; rfl) | (obtain ⟨_, _, _, _, _, _, rfl, _⟩ := h; rfl) | (obtain ⟨_, _, _, _, _, _, _, rfl, _⟩ := h; rfl) | (obtain ⟨_, _, _, _, _, _, _, _, rfl, _⟩ := h; rfl) | (obtain ⟨rfl, _⟩ := h; rfl)
  · obtain ⟨d, ns, rfl, hd, k⟩ := h
    refine ⟨_, (pss_cons (ps_set (i := 1) sc__law_token.nd rfl (Or.inl rfl) (WP.pe_callC c__law_draw hr rfl pass0 (WP.pa_consN (pv 0) (WP.pa_consN pe_int pa_nil))))
      (pss_cons (ps_if (PW.pt (pw_or (pt_cmpR op_eq (pv 1) pe_int (nomark _)) (pw_or1 (pt_cmpR op_eq (pv 1) pe_int (nomark _))))) (pss_one (ps_ret (pe_tup (WP.pa_consN (WP.pe_strL [119, 111, 114, 100] (by decide +kernel)) (WP.pa_consN (WP.pe_callC c__law_name hr rfl pass0 (WP.pa_consN (pv 0) pa_nil)) pa_nil))))) pss_nil)
      (pss_cons (ps_if (pt_cmpR op_eq (pv 1) pe_int (nomark _)) (pss_one (ps_ret (pe_tup (WP.pa_consN (WP.pe_strL [119, 111, 114, 100] (by decide +kernel)) (WP.pa_consN (pe_ix ix_list (WP.pe_callC0 c__law_reserved hr rfl pass0) (WP.pe_callC c__law_draw hr rfl pass0 (WP.pa_consN (pv 0) (WP.pa_consN pe_int pa_nil))) (fun _ _ => rfl)) pa_nil))))) pss_nil)
      (pss_cons (ps_set (i := 2) sc__law_token.nd rfl (Or.inl rfl) (WP.pe_callC c__law_figures hr rfl pass0 (WP.pa_consN (pv 0) (WP.pa_consN (pe_ix ix_list (pe_lst (WP.pa_consN pe_int (WP.pa_consN pe_int (WP.pa_consN pe_int (WP.pa_consN pe_int (WP.pa_consN pe_int (WP.pa_consN pe_int (WP.pa_consN pe_int pa_nil)))))))) (WP.pe_callC c__law_draw hr rfl pass0 (WP.pa_consN (pv 0) (WP.pa_consN pe_int pa_nil))) (fun _ _ => rfl)) pa_nil))))
      (pss_cons (ps_if (pt_cmpR op_eq (pv 1) pe_int (nomark _)) (pss_one (ps_ret (pe_tup (WP.pa_consN (WP.pe_strL [119, 111, 114, 100] (by decide +kernel)) (WP.pa_consN (pv 2) pa_nil))))) pss_nil)
      (pss_cons (ps_if (pt_cmpR op_eq (pv 1) pe_int (nomark _)) (pss_one (ps_ret (pe_tup (WP.pa_consN (WP.pe_strL [119, 111, 114, 100] (by decide +kernel)) (WP.pa_consN (pe_op WP.op_addS (pe_op WP.op_addS (pe_op WP.op_addS (pe_ix ix_list (pe_lst (WP.pa_consN (WP.pe_strL [45] (by decide +kernel)) (WP.pa_consN (WP.pe_strL [] (by decide +kernel)) pa_nil))) (WP.pe_callC c__law_draw hr rfl pass0 (WP.pa_consN (pv 0) (WP.pa_consN pe_int pa_nil))) (fun _ _ => rfl)) (pe_slice sl_str (pv 2) po_none (po_some pe_int))) (WP.pe_strL [46] (by decide +kernel))) (WP.pe_callC c__law_figures hr rfl pass0 (WP.pa_consN (pv 0) (WP.pa_consN (WP.pe_callC c__law_draw hr rfl pass0 (WP.pa_consN (pv 0) (WP.pa_consN pe_int pa_nil))) pa_nil)))) pa_nil))))) pss_nil)
      (pss_cons (ps_if (pt_cmpR op_eq (pv 1) pe_int (nomark _)) (pss_one (ps_ret (pe_tup (WP.pa_consN (WP.pe_strL [119, 111, 114, 100] (by decide +kernel)) (WP.pa_consN (pe_ix ix_list (pe_lst (WP.pa_consN (pe_op WP.op_addS (WP.pe_strL [45] (by decide +kernel)) (pv 2)) (WP.pa_consN (pe_op WP.op_addS (pv 2) (WP.pe_strL [97] (by decide +kernel))) (WP.pa_consN (pe_op WP.op_addS (WP.pe_strL [45, 45] (by decide +kernel)) (pv 2)) (WP.pa_consN (WP.pe_strL [45, 46] (by decide +kernel)) (WP.pa_consN (pe_op WP.op_addS (WP.pe_strL [48, 46] (by decide +kernel)) (pv 2)) (WP.pa_consN (WP.pe_strL [49, 46, 50, 46, 51] (by decide +kernel)) pa_nil))))))) (WP.pe_callC c__law_draw hr rfl pass0 (WP.pa_consN (pv 0) (WP.pa_consN pe_int pa_nil))) (fun _ _ => rfl)) pa_nil))))) pss_nil)
      (pss_cons (ps_if (pt_cmpR op_eq (pv 1) pe_int (nomark _)) (pss_one (ps_ret (pe_tup (WP.pa_consN (WP.pe_strL [119, 111, 114, 100] (by decide +kernel)) (WP.pa_consN (pe_ix ix_list (pe_lst (WP.pa_consN (WP.pe_strL [46] (by decide +kernel)) (WP.pa_consN (WP.pe_strL [44] (by decide +kernel)) (WP.pa_consN (WP.pe_strL [40] (by decide +kernel)) (WP.pa_consN (WP.pe_strL [41] (by decide +kernel)) (WP.pa_consN (WP.pe_strL [43] (by decide +kernel)) (WP.pa_consN (WP.pe_strL [45] (by decide +kernel)) (WP.pa_consN (WP.pe_strL [42] (by decide +kernel)) (WP.pa_consN (WP.pe_strL [61] (by decide +kernel)) (WP.pa_consN (WP.pe_strL [78, 97, 109, 101] (by decide +kernel)) (WP.pa_consN (WP.pe_strL [97, 45] (by decide +kernel)) (WP.pa_consN (WP.pe_strL [45, 97] (by decide +kernel)) pa_nil)))))))))))) (WP.pe_callC c__law_draw hr rfl pass0 (WP.pa_consN (pv 0) (WP.pa_consN pe_int pa_nil))) (fun _ _ => rfl)) pa_nil))))) pss_nil)
      (pss_one (ps_ret (pe_tup (WP.pa_consN (WP.pe_strL [115, 116, 114, 105, 110, 103] (by decide +kernel)) (WP.pa_consN (WP.pe_callC c__law_characters hr rfl pass0 (WP.pa_consN (pv 0) (WP.pa_consN pe_int pa_nil))) pa_nil))))))))))))), ?_⟩
    have kw : ∀ (w : List Nat) (H' : Hp), WordOk w → WP.Sx d H H' → DS K H' d ns → ∀ p, H' p = none → Q (.ref p) (upd H' p (.tup [.str (SX.S [119, 111, 114, 100]), .str (SX.S w)])) := fun w H' hw s hd' p hp => by
      obtain ⟨hd2, _, s2, g2⟩ := hd'.alloc (o := .tup [.str (SX.S [119, 111, 114, 100]), .str (SX.S w)]) hp
      exact k p false w _ ⟨fun _ => hw, fun z => Bool.noConfusion z⟩ (s.trans s2) hd2 (SqT.of g2)
    k_updF
    refine ⟨d, ns, _, rfl, by decide, WP.bt8 (by decide), hd, fun kind H1 v0 v1 s1 hd1 => ?_⟩
    k_updF
    refine WP.br (fun c => ?_) (fun c => ?_)
    · refine WP.brT rfl ?_
      k_updF
      refine ⟨d, ns, rfl, hd1, fun l H2 hl s2 hd2 => ?_⟩
      exact ⟨WP.sz (show 2 ≤ 1000000 by decide), kw l H2 hl.word (s1.trans s2) hd2⟩
    k_updF
    refine WP.br (fun c => ?_) (fun c => ?_)
    · k_updF
      refine ⟨d, ns, rfl, hd1, fun l H2 hl s2 hd2 => ?_⟩
      exact ⟨WP.sz (show 2 ≤ 1000000 by decide), kw l H2 hl.word (s1.trans s2) hd2⟩
    k_updF
    refine WP.br (fun c => ?_) (fun c => ?_)
    · k_updF
      refine ⟨rfl, fun p H2 hp e2 g2 => ?_⟩
      k_updF
      have n2 := hd1.new hp
      refine ⟨d, ns, _, rfl, by decide, WP.bt8 (by decide), hd1.same e2, fun v H3 v0 v1 s3 hd3 => ?_⟩
      obtain ⟨w, hw, ea⟩ := WP.at_M (l := rsv) (fun w => V.str (SX.S w)) v0 v1
      refine WP.ixL (WP.sqlX s3 n2.1 (SqL.of g2)) ea ?_
      exact ⟨WP.sz (show 2 ≤ 1000000 by decide), kw w H3 (rsv_word w hw) ((s1.trans (WP.Sx.of e2)).trans s3) hd3⟩
    k_updF
    refine ⟨WP.sz (show 7 ≤ 1000000 by decide), fun L1 hL1 => ?_⟩
    have e1 : Same H1 (upd H1 L1 (.lst [.int 1, .int 2, .int 3, .int 17, .int 18, .int 19, .int 20])) := WP.same_new hL1
    have g1 : (upd H1 L1 (.lst [.int 1, .int 2, .int 3, .int 17, .int 18, .int 19, .int 20])) L1 = some (.lst [.int 1, .int 2, .int 3, .int 17, .int 18, .int 19, .int 20]) := upd_same
    generalize upd H1 L1 _ = G1 at e1 g1 ⊢
    have nL1 := hd1.new hL1
    k_updF
    refine ⟨d, ns, _, rfl, by decide, WP.bt8 (by decide), hd1.same e1, fun v H2 v0 v1 s2 hd2 => ?_⟩
    obtain ⟨n, hn, ea⟩ := WP.at_M (l := [1, 2, 3, 17, 18, 19, 20]) (fun n : Nat => V.int (n : Int)) v0 v1
    refine WP.ixL (WP.sqlX s2 nL1.1 (SqL.of g1)) ea ?_
    have hn2 : 1 ≤ n ∧ n ≤ 20 := by
      have key : ∀ n ∈ [1, 2, 3, 17, 18, 19, 20], 1 ≤ n ∧ n ≤ 20 := by decide
      exact key n hn
    k_updF
    refine ⟨d, ns, n, rfl, by omega, hd2, fun f H3 hf fc s3 hd3 => ?_⟩
    have sA := ((s1.trans (WP.Sx.of e1)).trans s2).trans s3
    clear s1 s2 s3 hd1 hd2 e1 g1 nL1 ea hn
    k_updF
    refine WP.br (fun c => ?_) (fun c => ?_)
    · k_updF
      exact ⟨WP.sz (show 2 ≤ 1000000 by decide), kw f H3 (dg_word (by omega) (by omega) fc) sA hd3⟩
    k_updF
    refine WP.br (fun c => ?_) (fun c => ?_)
    · k_updF
      refine ⟨WP.sz (show 2 ≤ 1000000 by decide), fun L1 hL1 => ?_⟩
      have e1 : Same H3 (upd H3 L1 (.lst [.str (SX.S [45]), .str (SX.S [])])) := WP.same_new hL1
      have g1 : (upd H3 L1 (.lst [.str (SX.S [45]), .str (SX.S [])])) L1 = some (.lst [.str (SX.S [45]), .str (SX.S [])]) := upd_same
      generalize upd H3 L1 _ = G1 at e1 g1 ⊢
      have nL1 := hd3.new hL1
      k_updF
      refine ⟨d, ns, _, rfl, by decide, WP.bt8 (by decide), hd3.same e1, fun v H4 v0 v1 s4 hd4 => ?_⟩
      obtain ⟨w, hw, ea⟩ := WP.at_M (l := [[45], []]) (fun w => V.str (SX.S w)) v0 v1
      refine WP.ixL (WP.sqlX s4 nL1.1 (SqL.of g1)) ea ?_
      have hw2 : w.length ≤ 1 ∧ ∀ c ∈ w, 33 ≤ c ∧ c ≤ 126 ∧ c ≠ 37 ∧ c ≠ 39 := by
        have key : ∀ w ∈ [[45], []], w.length ≤ 1 ∧ ∀ c ∈ w, 33 ≤ c ∧ c ≤ 126 ∧ c ≠ 37 ∧ c ≠ 39 := by decide
        exact key w hw
      k_updF
      refine WP.slTo (by decide) (by rw [sizeLine_eq]; omega) ?_
      have l8 : (f.take (8 : Int).toNat).length ≤ 20 := by rw [List.length_take]; omega
      have c8 : ∀ c ∈ f.take (8 : Int).toNat, 48 ≤ c ∧ c ≤ 57 := fun c hc => fc c (List.mem_of_mem_take hc)
      generalize f.take (8 : Int).toNat = f8 at l8 c8 ⊢
      refine WP.catS ?_ (by rw [sizeLine_eq]; omega)
      k_updF
      refine WP.catS ?_ (by rw [sizeLine_eq, List.length_append]; show _ + 1 ≤ _; omega)
      k_updF
      refine ⟨d, ns, _, rfl, by decide, WP.bt8 (by decide), hd4, fun v H5 v0 v1 s5 hd5 => ?_⟩
      k_updF
      refine ⟨d, ns, v.toNat, by rw [Int.toNat_of_nonneg v0]; rfl, by omega, hd5, fun g H6 hg gc s6 hd6 => ?_⟩
      refine WP.catS ?_ (by rw [sizeLine_eq, List.length_append, List.length_append]; show _ + 1 + _ ≤ _; omega)
      refine ⟨WP.sz (show 2 ≤ 1000000 by decide), kw _ H6 ⟨?_, ?_, wd_app (wd_app (wd_app hw2.2 (dg_c c8)) (by decide)) (dg_c gc)⟩ ((((sA.trans (WP.Sx.of e1)).trans s4).trans s5).trans s6) hd6⟩
      · rw [List.length_append, List.length_append]; show 1 ≤ _ + 1 + _; omega
      · rw [List.length_append, List.length_append, List.length_append]; show _ + _ + 1 + _ ≤ 60; omega
    k_updF
    refine WP.br (fun c => ?_) (fun c => ?_)
    · k_updF
      refine WP.catS ?_ (by rw [sizeLine_eq]; show 1 + _ ≤ _; omega)
      k_updF
      refine WP.catS ?_ (by rw [sizeLine_eq]; show _ + 1 ≤ _; omega)
      k_updF
      refine WP.catS ?_ (by rw [sizeLine_eq]; show 2 + _ ≤ _; omega)
      k_updF
      refine WP.catS ?_ (by rw [sizeLine_eq]; show 2 + _ ≤ _; omega)
      k_updF
      have cd := dg_c fc
      have hall : ∀ w ∈ [[45] ++ f, f ++ [97], [45, 45] ++ f, [45, 46], [48, 46] ++ f, [49, 46, 50, 46, 51]], WordOk w := by
        intro w hw
        simp only [List.mem_cons, List.not_mem_nil, or_false] at hw
        rcases hw with rfl | rfl | rfl | rfl | rfl | rfl
        · exact ⟨by show 1 ≤ f.length + 1; omega, by show f.length + 1 ≤ 60; omega, wd_app (by decide) cd⟩
        · exact ⟨by rw [List.length_append]; omega, by rw [List.length_append]; show f.length + 1 ≤ 60; omega, wd_app cd (by decide)⟩
        · exact ⟨by show 1 ≤ f.length + 2; omega, by show f.length + 2 ≤ 60; omega, wd_app (by decide) cd⟩
        · exact ⟨by decide, by decide, by decide⟩
        · exact ⟨by show 1 ≤ f.length + 2; omega, by show f.length + 2 ≤ 60; omega, wd_app (by decide) cd⟩
        · exact ⟨by decide, by decide, by decide⟩
      refine ⟨WP.sz (show 6 ≤ 1000000 by decide), fun L1 hL1 => ?_⟩
      have e1 : Same H3 (upd H3 L1 (.lst [.str (SX.S ([45] ++ f)), .str (SX.S (f ++ [97])), .str (SX.S ([45, 45] ++ f)), .str (SX.S [45, 46]), .str (SX.S ([48, 46] ++ f)), .str (SX.S [49, 46, 50, 46, 51])])) := WP.same_new hL1
      have g1 : (upd H3 L1 (.lst [.str (SX.S ([45] ++ f)), .str (SX.S (f ++ [97])), .str (SX.S ([45, 45] ++ f)), .str (SX.S [45, 46]), .str (SX.S ([48, 46] ++ f)), .str (SX.S [49, 46, 50, 46, 51])])) L1 = some (.lst [.str (SX.S ([45] ++ f)), .str (SX.S (f ++ [97])), .str (SX.S ([45, 45] ++ f)), .str (SX.S [45, 46]), .str (SX.S ([48, 46] ++ f)), .str (SX.S [49, 46, 50, 46, 51])]) := upd_same
      generalize upd H3 L1 _ = G1 at e1 g1 ⊢
      have nL1 := hd3.new hL1
      k_updF
      refine ⟨d, ns, _, rfl, by decide, WP.bt8 (by decide), hd3.same e1, fun v H4 v0 v1 s4 hd4 => ?_⟩
      obtain ⟨w, hw, ea⟩ := WP.at_M (l := [[45] ++ f, f ++ [97], [45, 45] ++ f, [45, 46], [48, 46] ++ f, [49, 46, 50, 46, 51]]) (fun w => V.str (SX.S w)) v0 v1
      refine WP.ixL (WP.sqlX s4 nL1.1 (SqL.of g1)) ea ?_
      exact ⟨WP.sz (show 2 ≤ 1000000 by decide), kw w H4 (hall w hw) ((sA.trans (WP.Sx.of e1)).trans s4) hd4⟩
    k_updF
    refine WP.br (fun c => ?_) (fun c => ?_)
    · k_updF
      refine ⟨WP.sz (show 11 ≤ 1000000 by decide), fun L1 hL1 => ?_⟩
      have e1 : Same H3 (upd H3 L1 (.lst [.str (SX.S [46]), .str (SX.S [44]), .str (SX.S [40]), .str (SX.S [41]), .str (SX.S [43]), .str (SX.S [45]), .str (SX.S [42]), .str (SX.S [61]), .str (SX.S [78, 97, 109, 101]), .str (SX.S [97, 45]), .str (SX.S [45, 97])])) := WP.same_new hL1
      have g1 : (upd H3 L1 (.lst [.str (SX.S [46]), .str (SX.S [44]), .str (SX.S [40]), .str (SX.S [41]), .str (SX.S [43]), .str (SX.S [45]), .str (SX.S [42]), .str (SX.S [61]), .str (SX.S [78, 97, 109, 101]), .str (SX.S [97, 45]), .str (SX.S [45, 97])])) L1 = some (.lst [.str (SX.S [46]), .str (SX.S [44]), .str (SX.S [40]), .str (SX.S [41]), .str (SX.S [43]), .str (SX.S [45]), .str (SX.S [42]), .str (SX.S [61]), .str (SX.S [78, 97, 109, 101]), .str (SX.S [97, 45]), .str (SX.S [45, 97])]) := upd_same
      generalize upd H3 L1 _ = G1 at e1 g1 ⊢
      have nL1 := hd3.new hL1
      k_updF
      refine ⟨d, ns, _, rfl, by decide, WP.bt8 (by decide), hd3.same e1, fun v H4 v0 v1 s4 hd4 => ?_⟩
      obtain ⟨w, hw, ea⟩ := WP.at_M (l := [[46], [44], [40], [41], [43], [45], [42], [61], [78, 97, 109, 101], [97, 45], [45, 97]]) (fun w => V.str (SX.S w)) v0 v1
      refine WP.ixL (WP.sqlX s4 nL1.1 (SqL.of g1)) ea ?_
      have key : ∀ w ∈ [[46], [44], [40], [41], [43], [45], [42], [61], [78, 97, 109, 101], [97, 45], [45, 97]], 1 ≤ w.length ∧ w.length ≤ 60 ∧ ∀ c ∈ w, 33 ≤ c ∧ c ≤ 126 ∧ c ≠ 37 ∧ c ≠ 39 := by decide +kernel
      exact ⟨WP.sz (show 2 ≤ 1000000 by decide), kw w H4 (key w hw) ((sA.trans (WP.Sx.of e1)).trans s4) hd4⟩
    k_updF
    refine ⟨d, ns, 100, rfl, by decide, hd3, fun l H4 hl lc s4 hd4 => ?_⟩
    k_updF
    refine ⟨WP.sz (show 2 ≤ 1000000 by decide), fun p hp => ?_⟩
    obtain ⟨hd5, _, s5, g5⟩ := hd4.alloc (o := .tup [.str (SX.S kSTRG), .str (SX.S l)]) hp
    exact k p true l _ ⟨fun z => Bool.noConfusion z, fun _ => ⟨lc, by have : max 5 100 = 100 := rfl; omega⟩⟩ ((sA.trans s4).trans s5) hd5 (SqT.of g5)
  ))) only [D.box_eq]
end
abbrev s__law_quoted : Stmt := top 41
abbrev N__law_quoted : List Str := ["string", "written", "mark"]
theorem sc__law_quoted : FnScope N__law_quoted ["string"] (defScope s__law_quoted) := ⟨rfl, rfl, rfl, by decide +kernel, rfl, by decide +kernel, by decide +kernel⟩
def sp__law_quoted (K : PySem.W.Frag) (mg : WP.MG) : Sp := fun vs H Q _ => ∃ (l : List Nat), vs = [.str (SX.S l)] ∧ l.length ≤ 1000 ∧ Q (.str (SX.S (39 :: (MK.dq l ++ [39])))) H
section
variable {P : Program} {w : World} {K : PySem.W.Frag} {mg : Str → Option Value} {base : Heap}
theorem ok__law_quoted {f : Addr} {fd : FuncData} (F : Fun K "_law_quoted" "_law_quoted" s__law_quoted f fd) (B : Blt w K mg)  : FnOk P w K mg base CX0 1 f fd ["string"] (sp__law_quoted K mg) := by
  show D.Box _
  simp (discharger := (with_unfolding_all (
  refine F.ok sc__law_quoted (fun vs H Q E h => ?_) (fun cdv A outer s H vs Q E hr h => ?_)
  · first | (obtain ⟨_, rfl, _⟩ := h; rfl) | (obtain ⟨_, _, rfl, _⟩ := h; rfl) | (obtain ⟨_, _, _, rfl, _⟩ := h; rfl) | (obtain ⟨_, _, _, _, rfl, _⟩ := h; rfl) | (obtain ⟨_, _, _, _, _, rfl, _⟩ := h; rfl) | (obtain ⟨_, _, _, _, _, _, rfl, _⟩ := h; rfl) | (obtain ⟨_, _, _, _, _, _, _, rfl, _⟩ := h; rfl) | (obtain ⟨_, _, _, _, _, _, _, _, rfl, _⟩ := h; rfl) | (obtain ⟨rfl, _⟩ := h; rfl)
  · obtain ⟨l, rfl, hl, k⟩ := h
    refine ⟨_, (pss_cons (ps_set (i := 1) sc__law_quoted.nd rfl (Or.inl rfl) (WP.pe_strL [39] (by decide +kernel)))
      (pss_cons (ps_for PassesOwn.never rfl (pi_str (pv 0)) (pg_name (i := 2) sc__law_quoted.nd rfl (Or.inl rfl)) (pss_cons (ps_set (i := 1) sc__law_quoted.nd rfl (Or.inl rfl) (pe_op WP.op_addS (pv 1) (pv 2)))
      (pss_one (ps_if (pt_cmpR op_eq (pv 2) (WP.pe_strL [39] (by decide +kernel)) (nomark _)) (pss_one (ps_set (i := 1) sc__law_quoted.nd rfl (Or.inl rfl) (pe_op WP.op_addS (pv 1) (WP.pe_strL [39] (by decide +kernel))))) pss_nil))))
      (pss_one (ps_ret (pe_op WP.op_addS (pv 1) (WP.pe_strL [39] (by decide +kernel))))))), ?_⟩
    k_updF
    refine ⟨_, rfl, WP.for_txt (fun i σ' H' => H' = H ∧ ∃ z, σ' = [some (.str (SX.S l)), some (.str (SX.S ([39] ++ MK.dq (l.take i)))), z]) ⟨rfl, none, rfl⟩ ?_ ?_⟩
    · rintro i c σ' H' hc ⟨rfl, z, rfl⟩
      have hi := (List.getElem?_eq_some_iff.mp hc).1
      have hq := MK.dq_len (l.take i)
      rw [List.length_take] at hq
      have e : MK.dq (l.take (i + 1)) = MK.dq (l.take i) ++ MK.dq [c] := by rw [← MK.dq_app, List.take_succ, hc]; rfl
      k_updF
      refine WP.catS (a := [39] ++ MK.dq (l.take i)) (b := [c]) ?_ (by rw [sizeLine_eq, List.length_append]; show 1 + _ + 1 ≤ _; omega)
      k_updF
      refine WP.br (fun h => ?_) (fun h => ?_)
      · have h : c = 39 := by simpa using h
        subst h
        k_updF
        refine WP.catS (a := [39] ++ MK.dq (l.take i) ++ [39]) (b := [39]) ?_ (by rw [sizeLine_eq, List.length_append, List.length_append]; show 1 + _ + 1 + 1 ≤ _; omega)
        k_updF
        refine ⟨rfl, some (.str (SX.S [39])), ?_⟩
        rw [e, show MK.dq [39] = [39] ++ [39] from rfl, ← List.append_assoc, ← List.append_assoc]; rfl
      · have h : c ≠ 39 := by simpa using h
        k_updF
        refine ⟨rfl, some (.str (SX.S [c])), ?_⟩
        rw [e, MK.dq_c h, ← List.append_assoc]; rfl
    rintro σ' H' ⟨rfl, z, rfl⟩
    rw [List.take_length]
    have hq := MK.dq_len l
    k_updF
    refine WP.catS (a := [39] ++ MK.dq l) (b := [39]) ?_ (by rw [sizeLine_eq, List.length_append]; show 1 + _ + 1 ≤ _; omega)
    exact k
  ))) only [D.box_eq]
end
abbrev s__law_build : Stmt := top 47
abbrev N__law_build : List Str := ["draws", "count", "text", "rows", "k", "kind", "word", "mark"]
theorem sc__law_build : FnScope N__law_build ["draws", "count"] (defScope s__law_build) := ⟨rfl, rfl, rfl, by decide +kernel, rfl, by decide +kernel, by decide +kernel⟩
def pcT (b : Bool) (w : List Nat) : Pc := if b = true then .st w else .wd w
theorem pcT_e {b : Bool} {w : List Nat} (h : TkOk b w) (P : List Pc) : (pcT b w).Ok ∧ (pcT b w).ren.length ≤ 202 ∧ (∀ q, pcT b w = .st q → q.length ≤ 1000) ∧ exps 1 (P ++ [pcT b w]) = exps 1 P ++ [(1 + nls P, (b, w))] ∧ flts 1 (P ++ [pcT b w]) = flts 1 P ∧ rend (P ++ [pcT b w]) = rend P ++ (pcT b w).ren := by
  have er : ∀ x : Pc, rend (P ++ [x]) = rend P ++ x.ren := fun x => by rw [rend_app]; show _ ++ (x.ren ++ []) = _; rw [List.append_nil]
  cases b with
  | false =>
    have h := h.1 rfl
    refine ⟨h, Nat.le_trans h.2.1 (by decide), (fun q e => nomatch e), by rw [exps_app]; rfl, ?_, er _⟩
    rw [flts_app]; show _ ++ [] = _; rw [List.append_nil]
  | true =>
    obtain ⟨h, hl⟩ := h.2 rfl
    refine ⟨h, ?_, (fun q e => by injection e with e; rw [← e]; omega), by rw [exps_app]; rfl, ?_, er _⟩
    · have := MK.dq_len w
      show (39 :: (MK.dq w ++ [39])).length ≤ 202
      rw [List.length_cons, List.length_append, List.length_singleton]; omega
    · rw [flts_app]; show _ ++ [] = _; rw [List.append_nil]
structure B31 (K : PySem.W.Frag) (H : Hp) (d : Addr) (ns : DZ) (L : Addr) (G : Hp) (P : List Pc) (n : Nat) : Prop where
  sx : WP.Sx d H G
  ds : DS K G d ns
  rt : RtL K G L (exps 1 P)
  tx : TxO P (300 * (n + 1))
  fl : flts 1 P = []
  ln : (exps 1 P).length = n
  en : EndSp P
  ne : ∀ u ∈ exps 1 P, u.2.2 = [] → u.2.1 = true
theorem B31.draw {K : PySem.W.Frag} {H G G' : Hp} {d L : Addr} {ns : DZ} {P : List Pc} {n : Nat} (b : B31 K H d ns L G P n) (nL : L ≠ d) (s : WP.Sx d G G') (D : DS K G' d ns) : B31 K H d ns L G' P n := by
  obtain ⟨yd, hyd⟩ := b.ds.lst
  exact ⟨b.sx.trans s, D, b.rt.sx hyd nL s, b.tx, b.fl, b.ln, b.en, b.ne⟩
theorem B31.same {K : PySem.W.Frag} {H G G' : Hp} {d L : Addr} {ns : DZ} {P : List Pc} {n : Nat} (b : B31 K H d ns L G P n) (s : Same G G') : B31 K H d ns L G' P n := ⟨b.sx.trans (.of s), b.ds.same s, b.rt.same s, b.tx, b.fl, b.ln, b.en, b.ne⟩
def sp__law_build (K : PySem.W.Frag) (mg : WP.MG) : Sp := fun vs H Q _ => ∃ (d : Addr) (ns : DZ) (cnt : Nat), vs = [.ref d, .int (cnt : Int)] ∧ cnt ≤ 9 ∧ DS K H d ns ∧
  ∀ (P : List Pc) (t L : Addr) (H' : Hp), WP.Sx d H H' → DS K H' d ns → TxO P 3000 → flts 1 P = [] → (exps 1 P).length ≤ 9 → L ≠ d → L ≠ ns.1 → SqT K H' t [.str (SX.S (rend P)), .ref L] → RtL K H' L (exps 1 P) → (∀ u ∈ exps 1 P, u.2.2 = [] → u.2.1 = true) → Q (.ref t) H'
section
variable {P : Program} {w : World} {K : PySem.W.Frag} {mg : Str → Option Value} {base : Heap}
theorem ok__law_build {f : Addr} {fd : FuncData} (F : Fun K "_law_build" "_law_build" s__law_build f fd) (B : Blt w K mg) (c__law_draw : WP.Callee P w K mg base CX0 1 "_law_draw" ["draws", "limit"] (sp__law_draw K mg)) (c__law_token : WP.Callee P w K mg base CX0 3 "_law_token" ["draws"] (sp__law_token K mg)) (c__law_quoted : WP.Callee P w K mg base CX0 1 "_law_quoted" ["string"] (sp__law_quoted K mg)) : FnOk P w K mg base CX0 4 f fd ["draws", "count"] (sp__law_build K mg) := by
  show D.Box _
  simp (discharger := (with_unfolding_all (
  refine F.ok sc__law_build (fun vs H Q E h => ?_) (fun cdv A outer s H vs Q E hr h => ?_)
  · first | (obtain ⟨_, rfl, _⟩ := h; rfl) | (obtain ⟨_, _, rfl, _⟩ := h; rfl) | (obtain ⟨_, _, _, rfl, _⟩ := h; rfl) | (obtain ⟨_, _, _, _, rfl, _⟩ := h; rfl) | (obtain ⟨_, _, _, _, _, rfl, _⟩ := h; rfl) | (obtain ⟨_, _, _, _, _, _, rfl, _⟩ := h; rfl) | (obtain ⟨_, _, _, _, _, _, _, rfl, _⟩ := h; rfl) | (obtain ⟨_, _, _, _, _, _, _, _, rfl, _⟩ := h; rfl) | (obtain ⟨rfl, _⟩ := h; rfl)
  · obtain ⟨d, ns, cnt, rfl, hcn, hd, k⟩ := h
    refine ⟨_, (pss_cons (ps_set (i := 2) sc__law_build.nd rfl (Or.inl rfl) (pe_ix ix_list (pe_lst (WP.pa_consN (WP.pe_strL [] (by decide +kernel)) (WP.pa_consN (WP.pe_strL [32] (by decide +kernel)) (WP.pa_consN (WP.pe_strL [10] (by decide +kernel)) pa_nil)))) (WP.pe_callC c__law_draw hr rfl pass0 (WP.pa_consN (pv 0) (WP.pa_consN pe_int pa_nil))) (fun _ _ => rfl)))
      (pss_cons (ps_set (i := 3) sc__law_build.nd rfl (Or.inl rfl) (pe_lst pa_nil))
      (pss_cons (ps_for PassesOwn.never rfl (pi_range1 rfl B.b_range (WP.pa_consN (pv 1) pa_nil)) (pg_name (i := 4) sc__law_build.nd rfl (Or.inl rfl)) (pss_cons (ps_asg (WP.pe_callC c__law_token hr rfl pass0 (WP.pa_consN (pv 0) pa_nil)) (pg_tup (by rfl) (pgs_cons (pg_name (i := 5) sc__law_build.nd rfl (Or.inl rfl)) (pgs_cons (pg_name (i := 6) sc__law_build.nd rfl (Or.inl rfl)) pgs_nil))))
      (pss_cons (ps_expr (pe_bm PySem.F.plainAttrs_list PySem.F.slot_list_append PySem.F.type_list_append mt_append (pv 3) (WP.pa_consN (pe_tup (WP.pa_consN (pe_op op_add pe_int (pe_callB WP.c_len (by rfl) B.b_len (by decide +kernel) (WP.pa_consN (pe_lc (own := [("mark", 7)]) (g := gName 7) rfl sc__law_build.nd (pi_str (pv 2)) (blkOk_by (own := [("mark", 7)]) (N := N__law_build) (sc := defScope s__law_build) (by decide +kernel)) (fun _ _ _ _ _ => pg_name (i := 7) sc__law_build.nd rfl (Or.inl rfl)) (fun _ _ _ _ _ => (pts_one (pt_cmpR op_eq (pv 7) (WP.pe_strL [10] (by decide +kernel)) (nomark _)))) (fun _ _ _ _ _ => (pv 7))) pa_nil))) (WP.pa_consN (pv 5) (WP.pa_consN (pv 6) pa_nil)))) pa_nil)))
      (Evl.pss_cut (ps_if (pt_cmpR op_eq (pv 5) (WP.pe_strL [115, 116, 114, 105, 110, 103] (by decide +kernel)) (nomark _)) (pss_one (ps_set (i := 6) sc__law_build.nd rfl (Or.inl rfl) (WP.pe_callC c__law_quoted hr rfl pass0 (WP.pa_consN (pv 6) pa_nil)))) pss_nil)
      (pss_one (ps_set (i := 2) sc__law_build.nd rfl (Or.inl rfl) (pe_op WP.op_addS (pe_op WP.op_addS (pv 2) (pv 6)) (pe_ix ix_list (pe_lst (WP.pa_consN (WP.pe_strL [32] (by decide +kernel)) (WP.pa_consN (WP.pe_strL [10] (by decide +kernel)) (WP.pa_consN (WP.pe_strL [32, 10, 32] (by decide +kernel)) (WP.pa_consN (WP.pe_strL [10, 10] (by decide +kernel)) pa_nil))))) (WP.pe_callC c__law_draw hr rfl pass0 (WP.pa_consN (pv 0) (WP.pa_consN pe_int pa_nil))) (fun _ _ => rfl)))))))))
      (pss_one (ps_ret (pe_tup (WP.pa_consN (pv 2) (WP.pa_consN (pv 3) pa_nil)))))))), ?_⟩
    k_updF
    refine ⟨WP.sz (show 3 ≤ 1000000 by decide), fun L1 hL1 => ?_⟩
    have e1 : Same H (upd H L1 (.lst [.str (SX.S []), .str (SX.S [32]), .str (SX.S [10])])) := WP.same_new hL1
    have g1 : (upd H L1 (.lst [.str (SX.S []), .str (SX.S [32]), .str (SX.S [10])])) L1 = some (.lst [.str (SX.S []), .str (SX.S [32]), .str (SX.S [10])]) := upd_same
    generalize upd H L1 _ = G1 at e1 g1 ⊢
    have nL1 := hd.new hL1
    k_updF
    refine ⟨d, ns, _, rfl, by decide, WP.bt8 (by decide), hd.same e1, fun v H2 v0 v1 s2 hd2 => ?_⟩
    obtain ⟨l0, hl0, ea⟩ := WP.at_M (l := [[], [32], [10]]) (fun w => V.str (SX.S w)) v0 v1
    refine WP.ixL (WP.sqlX s2 nL1.1 (SqL.of g1)) ea ?_
    have l0c : (∀ c ∈ l0, c = 32 ∨ c = 10) ∧ l0.length ≤ 1 := (show ∀ l ∈ [[], [32], [10]], (∀ c ∈ l, c = 32 ∨ c = 10) ∧ l.length ≤ 1 by decide) l0 hl0
    have s2 := (WP.Sx.of e1).trans s2
    clear ea hl0 e1 g1 nL1 hL1
    k_updF
    refine ⟨Nat.zero_le _, fun L hL => ?_⟩
    have nL := hd2.new hL
    have hL0 : H L = none := sx_free s2 nL.1 hL
    obtain ⟨hd3, _, s3, gL⟩ := hd2.alloc (o := .lst []) hL
    have b0 : B31 K H d ns L (upd H2 L (.lst [])) (spc l0) 0 := ⟨s2.trans s3, hd3, ⟨[], gL, by rw [exps_spc]; exact ⟨rfl, fun i a t h => nomatch h⟩⟩, TxO.nil l0c.1 (by omega), flts_spc 1 l0, by rw [exps_spc]; rfl, by
      by_cases c : l0 = []
      · rw [c]; intro x hx; cases hx
      · exact end_spc (P := []) c, by rw [exps_spc]; exact fun u h => nomatch h⟩
    rw [show l0 = rend (spc l0) from (rend_spc l0).symm]
    generalize spc l0 = P0 at b0 ⊢
    generalize upd H2 L _ = H3 at b0 ⊢
    clear hL hd3 s3 gL s2 hd2
    k_updF
    refine ⟨_, rfl, by omega, by omega, for_range (lo := 0) (n := _) (fun i σ' H' => ∃ (P : List Pc) (z4 z5 z6 z7 : Option V), σ' = [some (.ref d), some (.int (cnt : Int)), some (.str (SX.S (rend P))), some (.ref L), z4, z5, z6, z7] ∧ B31 K H d ns L H' P i) ⟨P0, _, _, _, _, rfl, b0⟩ ?_ ?_⟩
    · rintro i σ' H4 hi ⟨P, z4, z5, z6, z7, rfl, b⟩
      rw [Int.toNat_natCast] at hi
      k_updF
      refine ⟨d, ns, rfl, b.ds, fun p bb w H5 tk s5 d5 hp => ?_⟩
      have b := b.draw nL.1 s5 d5
      k_updF
      refine WP.unT hp rfl ?_
      k_updF
      obtain ⟨as, gL, rL⟩ := b.rt
      refine WP.tyL (SqL.of gL) ?_
      k_updF
      have tl := b.tx.len
      have tl2 : (rend P).length ≤ 3000 := by omega
      have hns := nls_cnt P b.tx.ok
      refine ⟨_, rfl, fun D hD => WP.lc_txt (fun i Hx => Hx = upd H5 D (.lst ((((rend P).take i).filter (· == 10)).map fun c => V.str (SX.S [c])))) rfl ?_ ?_⟩
      · rintro i c Hx hc rfl
        have et : (rend P).take (i + 1) = (rend P).take i ++ [c] := by rw [List.take_succ, hc]; rfl
        k_updF
        refine ⟨rfl, ?_⟩
        k_updF
        refine WP.br (fun h => ?_) (fun h => ?_)
        · have h : c = 10 := by simpa using h
          subst h
          k_updF
          refine ⟨_, upd_same, ?_, ?_⟩
          · rw [List.length_map, sizeLine_eq]
            have := List.length_filter_le (· == 10) ((rend P).take i)
            rw [List.length_take] at this
            omega
          · rw [et, List.filter_append, List.map_append, show [10].filter (· == 10) = [10] from rfl, upd_upd]
            rfl
        · have h : c ≠ 10 := by simpa using h
          rw [et, List.filter_append, show [c].filter (· == 10) = [] by simp [h], List.append_nil]
      rintro Hx rfl
      rw [List.take_length]
      k_updF
      refine WP.lenL (SqL.of upd_same) ?_
      rw [List.length_map, hns]
      have eD := WP.same_new (o := .lst (((rend P).filter (· == 10)).map fun c => V.str (SX.S [c]))) hD
      have b := b.same eD
      have gL := eD _ _ gL
      have rL := rt_map rL fun _ _ z => WP.sqt eD z
      generalize upd H5 D _ = H6 at b gL rL ⊢
      clear eD hD
      k_updF
      refine ⟨WP.sz (show 3 ≤ 1000000 by decide), fun T hT => ?_⟩
      have eT := WP.same_new (o := .tup [.int (1 + (nls P : Nat) : Int), .str (SX.S (kwd bb)), .str (SX.S w)]) hT
      have b := b.same eT
      have gL := eT _ _ gL
      have rL := rt_map rL fun _ _ z => WP.sqt eT z
      have gT : SqT K (upd H6 T (.tup [.int (1 + (nls P : Nat) : Int), .str (SX.S (kwd bb)), .str (SX.S w)])) T (Tk.vs ((1 + nls P : Nat) : Int) (bb, w)) := by
        have := SqT.of (K := K) (upd_same (H := H6) (a := T) (o := .tup [.int (1 + (nls P : Nat) : Int), .str (SX.S (kwd bb)), .str (SX.S w)]))
        rw [show ((1 + nls P : Nat) : Int) = 1 + (nls P : Int) by omega]
        cases bb <;> exact this
      k_updF
      have hall : (as ++ [T]).map V.ref = as.map V.ref ++ [V.ref T] := by rw [List.map_append]; rfl
      obtain ⟨okx, rnx, stx, exq, flq, er⟩ := pcT_e tk P
      have lnas : (as.map V.ref).length = i := by rw [List.length_map, rL.1, b.ln]
      refine WP.appL gL (by rw [lnas, sizeLine_eq]; omega) ?_
      have rt2 := RtL.app (t := (1 + nls P, (bb, w))) gL rL gT
      rw [hall, ← exq] at rt2
      have sx2 := sx_mut b.sx hL0 (o := HO.lst (as.map V.ref ++ [V.ref T]))
      have ds2 := b.ds.mut nL (o := HO.lst (as.map V.ref ++ [V.ref T]))
      have tx2 := b.tx.snoc (m := 300 * (i + 1) + 202) b.en okx stx (by omega)
      have fl2 := flq.trans b.fl
      have ln2 : (exps 1 (P ++ [pcT bb w])).length = i + 1 := by rw [exq, List.length_append, b.ln]; rfl
      have ne2 : ∀ u ∈ exps 1 (P ++ [pcT bb w]), u.2.2 = [] → u.2.1 = true := by
        rw [exq]
        intro u hu hn
        rcases List.mem_append.mp hu with hu | hu
        · exact b.ne u hu hn
        · rw [List.mem_singleton.mp hu] at hn ⊢
          cases bb with
          | true => rfl
          | false => have := (tk.1 rfl).1; rw [show w = [] from hn] at this; exact absurd this (by decide)
      generalize upd (upd H6 T _) L _ = H7 at rt2 sx2 ds2 ⊢
      clear b gL rL gT eT hT
      k_updF
      refine WP.cut (fun σ' H' => H' = H7 ∧ σ' = [some (.ref d), some (.int (cnt : Int)), some (.str (SX.S (rend P))), some (.ref L), some (.int (0 + (i : Int))), some (.str (SX.S (kwd bb))), some (.str (SX.S (pcT bb w).ren)), z7]) ?_ ?_
      · k_updF
        cases bb with
        | false =>
          refine WP.brF (decide_eq_false (by decide)) ?_
          k_updF
          exact ⟨rfl, rfl⟩
        | true =>
          refine WP.brT (decide_eq_true (by decide)) ?_
          k_updF
          have := (tk.2 rfl).2
          refine ⟨w, rfl, by omega, ?_⟩
          k_updF
          exact ⟨rfl, rfl⟩
      rintro σ' H8 ⟨rfl, rfl⟩
      have tn := tx2.len
      rw [er, List.length_append] at tn
      k_updF
      refine WP.catS ?_ (by rw [sizeLine_eq]; omega)
      rw [← er]
      k_updF
      refine ⟨WP.sz (show 4 ≤ 1000000 by decide), fun L1 hL1 => ?_⟩
      have e1 : Same H8 (upd H8 L1 (.lst [.str (SX.S [32]), .str (SX.S [10]), .str (SX.S [32, 10, 32]), .str (SX.S [10, 10])])) := WP.same_new hL1
      have g1 : (upd H8 L1 (.lst [.str (SX.S [32]), .str (SX.S [10]), .str (SX.S [32, 10, 32]), .str (SX.S [10, 10])])) L1 = some (.lst [.str (SX.S [32]), .str (SX.S [10]), .str (SX.S [32, 10, 32]), .str (SX.S [10, 10])]) := upd_same
      generalize upd H8 L1 _ = G1 at e1 g1 ⊢
      have nL1 := ds2.new hL1
      k_updF
      refine ⟨d, ns, _, rfl, by decide, WP.bt8 (by decide), ds2.same e1, fun v H9 v0 v1 s9 hd9 => ?_⟩
      obtain ⟨l1, hl1, ea⟩ := WP.at_M (l := [[32], [10], [32, 10, 32], [10, 10]]) (fun w => V.str (SX.S w)) v0 v1
      refine WP.ixL (WP.sqlX s9 nL1.1 (SqL.of g1)) ea ?_
      have l1c := (show ∀ l ∈ [[32], [10], [32, 10, 32], [10, 10]], (∀ c ∈ l, c = 32 ∨ c = 10) ∧ 1 ≤ l.length ∧ l.length ≤ 3 by decide) l1 hl1
      refine WP.catS ?_ (by rw [sizeLine_eq, er, List.length_append]; omega)
      rw [show rend (P ++ [pcT bb w]) ++ l1 = rend (P ++ [pcT bb w] ++ spc l1) by rw [rend_app _ (spc l1), rend_spc]]
      k_updF
      obtain ⟨yd, hyd⟩ := ds2.lst
      refine ⟨_, _, _, _, _, rfl, (sx2.trans (WP.Sx.of e1)).trans s9, hd9, ?_, tx2.spaces l1c.1 (by omega), by rw [flts_snocS]; exact fl2, by rw [exps_snocS]; exact ln2, end_spc (fun e => by rw [e] at l1c; exact absurd l1c.2.1 (by decide)), by rw [exps_snocS]; exact ne2⟩
      rw [exps_snocS]
      exact (rt2.same e1).sx (e1 _ _ hyd) nL.1 s9
    rintro σ' H4 ⟨P, z4, z5, z6, z7, rfl, b⟩
    rw [Int.toNat_natCast] at b
    k_updF
    refine ⟨WP.sz (show 2 ≤ 1000000 by decide), fun T hT => ?_⟩
    have b := b.same (WP.same_new (o := .tup [.str (SX.S (rend P)), .ref L]) hT)
    have tl := b.tx.len
    exact k P T L _ b.sx b.ds ⟨b.tx.ok, b.tx.adj, by omega, b.tx.st⟩ b.fl (by rw [b.ln]; exact hcn) nL.1 nL.2 (SqT.of upd_same) b.rt b.ne
  ))) only [D.box_eq]
end
abbrev s_BadProgram___init__ : Stmt := inClass (top 4) 0
abbrev N_BadProgram___init__ : List Str := ["self", "line", "reason"]
theorem sc_BadProgram___init__ : FnScope N_BadProgram___init__ ["self", "line", "reason"] (defScope s_BadProgram___init__) := ⟨rfl, rfl, rfl, by decide +kernel, rfl, by decide +kernel, by decide +kernel⟩
/-- the exception at d: its line and its reason -/
def BPf (x y : V) : List (Str × V) := [("reason", y), ("line", x)]
def sp_BadProgram___init__ (K : PySem.W.Frag) (mg : WP.MG) : Sp := fun vs H Q _ => ∃ (a : Addr) (x y : V), vs = [.ref a, x, y] ∧ H a = some (exo a (WP.ca mg "BadProgram") none) ∧
  ∀ (dx : Addr) (H' : Hp), H dx = none → dx ≠ a → H' a = some (exo a (WP.ca mg "BadProgram") (some dx)) → H' dx = some (exd dx (BPf x y)) → (∀ b o, b ≠ a → b ≠ dx → H b = some o → H' b = some o) → Q .non H'
/-- BadProgram with this line and this reason is raised -/
def BPr (mg : WP.MG) (H : Hp) (E : XK) (x y : V) : Prop := ∀ (d : Addr) (H' : Hp), Same H H' → H' d = some (.xd (BPf x y)) → E (.ref (WP.ca mg "BadProgram")) (some d) H'
theorem raise_BP {K : PySem.W.Frag} {mg : WP.MG} {H : Hp} {E : XK} {x y : V} (k : BPr mg H E x y) : [x, y].length ≤ 1000 ∧ ∀ a, H a = none → sp_BadProgram___init__ K mg (.ref a :: ([x, y] ++ [])) (upd H a (exo a (WP.ca mg "BadProgram") none))
    (fun v H2 => v = .non ∧ ∃ (d : Addr) (fs : List (Str × V)), H2 a = some (exo a (WP.ca mg "BadProgram") (some d)) ∧ H2 d = some (exd d fs) ∧ H d = none ∧ E (.ref (WP.ca mg "BadProgram")) (some d) (upd (del H2 a) d (.xd fs))) (fun _ _ _ => False) := by
  refine ⟨by show 2 ≤ 1000; decide, fun a ha => ⟨a, x, y, rfl, upd_same, fun dx H' n1 n2 h1 h2 keep => ?_⟩⟩
  have n1' : H dx = none := by rw [upd_ne n2] at n1; exact n1
  refine ⟨rfl, dx, BPf x y, h1, h2, n1', k dx _ (fun b o e => ?_) upd_same⟩
  have ba : b ≠ a := fun z => by rw [z, ha] at e; cases e
  have bd : b ≠ dx := fun z => by rw [z, n1'] at e; cases e
  rw [upd_ne bd, del_ne ba]
  exact keep b o ba bd (by rw [upd_ne ba]; exact e)
theorem cut_take (c : Nat) (l : List Nat) : l.take (MT.cutW c l).length = MT.cutW c l := by
  induction l with
  | nil => rfl
  | cons x r ih =>
    by_cases h : x = c
    · subst h
      rw [MR.cut_consEq.1]; rfl
    · rw [(MR.cut_consNe h).1, List.length_cons, List.take_succ_cons, ih]
theorem cut_all {c : Nat} {l : List Nat} (h : MT.cutR c l = none) : MT.cutW c l = l := by
  induction l with
  | nil => rfl
  | cons x r ih =>
    by_cases e : x = c
    · subst e
      rw [MR.cut_consEq.2] at h; cases h
    · rw [(MR.cut_consNe e).2] at h
      rw [(MR.cut_consNe e).1, ih h]
section
variable {P : Program} {w : World} {K : PySem.W.Frag} {mg : Str → Option Value} {base : Heap}
theorem ok_BadProgram___init__ {f : Addr} {fd : FuncData} (F : Fun K "__init__" "BadProgram.__init__" s_BadProgram___init__ f fd) (B : Blt w K mg)  : FnOk P w K mg base CX0 1 f fd ["self", "line", "reason"] (sp_BadProgram___init__ K mg) := by
  show D.Box _
  simp (discharger := (with_unfolding_all (
  refine F.ok sc_BadProgram___init__ (fun vs H Q E h => ?_) (fun cdv A outer s H vs Q E hr h => ?_)
  · first | (obtain ⟨_, rfl, _⟩ := h; rfl) | (obtain ⟨_, _, rfl, _⟩ := h; rfl) | (obtain ⟨_, _, _, rfl, _⟩ := h; rfl) | (obtain ⟨_, _, _, _, rfl, _⟩ := h; rfl) | (obtain ⟨_, _, _, _, _, rfl, _⟩ := h; rfl) | (obtain ⟨_, _, _, _, _, _, rfl, _⟩ := h; rfl) | (obtain ⟨_, _, _, _, _, _, _, rfl, _⟩ := h; rfl) | (obtain ⟨_, _, _, _, _, _, _, _, rfl, _⟩ := h; rfl) | (obtain ⟨rfl, _⟩ := h; rfl)
  · obtain ⟨a, x, y, rfl, ha, k⟩ := h
    refine ⟨_, (pss_cons (ps_ost (pv 0) (pv 1))
      (pss_one (ps_ost (pv 0) (pv 2)))), ?_⟩
    k_updF
    refine ⟨a, _, rfl, B.xi_BadProgram.o, B.xi_BadProgram.n _ (by decide +kernel), .inl ⟨ha, fun dx n1 n2 => ?_⟩⟩
    k_updF
    refine ⟨a, _, rfl, B.xi_BadProgram.o, B.xi_BadProgram.n _ (by decide +kernel), .inr ⟨dx, [("line", x)], upd_same, by rw [upd_ne n2, upd_same], by show 1 ≤ 900; decide, ?_⟩⟩
    refine k dx _ n1 n2 (by rw [upd_ne (Ne.symm n2), upd_same]) upd_same (fun b o h1 h2 e => by rw [upd_ne h2, upd_ne h1, upd_ne h2]; exact e)
  ))) only [D.box_eq]
theorem okH_BadProgram___init__ {f : Addr} {fd : FuncData} (F : Fun K "__init__" "BadProgram.__init__" s_BadProgram___init__ f fd) (B : Blt w K mg)  : L2H.FnH P w K mg base CX0 1 f fd ["self", "line", "reason"] (sp_BadProgram___init__ K mg) := by
  show D.Box _
  simp (discharger := (with_unfolding_all (
  refine WP.okH F sc_BadProgram___init__ (fun vs H Q E h => ?_) (fun cdv A outer s H vs Q E p_ hc hr h => ?_)
  · first | (obtain ⟨_, rfl, _⟩ := h; rfl) | (obtain ⟨_, _, rfl, _⟩ := h; rfl) | (obtain ⟨_, _, _, rfl, _⟩ := h; rfl) | (obtain ⟨_, _, _, _, rfl, _⟩ := h; rfl) | (obtain ⟨_, _, _, _, _, rfl, _⟩ := h; rfl) | (obtain ⟨_, _, _, _, _, _, rfl, _⟩ := h; rfl) | (obtain ⟨_, _, _, _, _, _, _, rfl, _⟩ := h; rfl) | (obtain ⟨_, _, _, _, _, _, _, _, rfl, _⟩ := h; rfl) | (obtain ⟨rfl, _⟩ := h; rfl)
  · obtain ⟨a, x, y, rfl, ha, k⟩ := h
    refine ⟨_, (pss_cons (ps_ost (pv 0) (pv 1))
      (pss_one (ps_ost (pv 0) (pv 2)))), ?_⟩
    k_updF
    refine ⟨a, _, rfl, B.xi_BadProgram.o, B.xi_BadProgram.n _ (by decide +kernel), .inl ⟨ha, fun dx n1 n2 => ?_⟩⟩
    k_updF
    refine ⟨a, _, rfl, B.xi_BadProgram.o, B.xi_BadProgram.n _ (by decide +kernel), .inr ⟨dx, [("line", x)], upd_same, by rw [upd_ne n2, upd_same], by show 1 ≤ 900; decide, ?_⟩⟩
    refine k dx _ n1 n2 (by rw [upd_ne (Ne.symm n2), upd_same]) upd_same (fun b o h1 h2 e => by rw [upd_ne h2, upd_ne h1, upd_ne h2]; exact e)
  ))) only [D.box_eq]
end
abbrev s_is_printable : Stmt := top 16
abbrev N_is_printable : List Str := ["value", "codes", "character"]
theorem sc_is_printable : FnScope N_is_printable ["value"] (defScope s_is_printable) := ⟨rfl, rfl, rfl, by decide +kernel, rfl, by decide +kernel, by decide +kernel⟩
def sp_is_printable (K : PySem.W.Frag) (mg : WP.MG) : Sp := fun vs H Q _ => ∃ l : List Nat, vs = [.str (SX.S l)] ∧ l.length ≤ 100000 ∧ GxR.TabG H (WP.tbl K "is_printable") ∧ WP.MetV (.bl (MW.prn l)) H Q
section
variable {P : Program} {w : World} {K : PySem.W.Frag} {mg : Str → Option Value} {base : Heap}
theorem ok_is_printable {f : Addr} {fd : FuncData} (F : WP.FunC K "is_printable" "is_printable" s_is_printable f fd (WP.cod K "is_printable")) (T : GxR.TabB base mg (WP.cod K "is_printable") (WP.tbl K "is_printable")) (B : Blt w K mg)  : FnOk P w K mg base CX0 1 f fd ["value"] (sp_is_printable K mg) := by
  show D.Box _
  simp (discharger := (with_unfolding_all (
  refine F.ok sc_is_printable (fun vs H Q E h => ?_) (fun A outer s H vs Q E hr h => ?_)
  · first | (obtain ⟨_, rfl, _⟩ := h; rfl) | (obtain ⟨_, _, rfl, _⟩ := h; rfl) | (obtain ⟨_, _, _, rfl, _⟩ := h; rfl) | (obtain ⟨_, _, _, _, rfl, _⟩ := h; rfl) | (obtain ⟨_, _, _, _, _, rfl, _⟩ := h; rfl) | (obtain ⟨_, _, _, _, _, _, rfl, _⟩ := h; rfl) | (obtain ⟨_, _, _, _, _, _, _, rfl, _⟩ := h; rfl) | (obtain ⟨_, _, _, _, _, _, _, _, rfl, _⟩ := h; rfl) | (obtain ⟨rfl, _⟩ := h; rfl)
  · obtain ⟨l, rfl, hl, hT, k⟩ := h
    refine ⟨_, (pss_cons (ps_if (pt_not (pt_val (pe_callB call_isi (by rfl) B.b_isinstance (by decide +kernel) (pa_cons (pv 0) (pa_cons (pe_bltn (v := .ty "str") rfl B.b_str (by decide +kernel) rfl) pa_nil))))) (pss_one (ps_ret pe_bl)) pss_nil)
      (pss_cons (ps_setLc (i := 1) (own := [("character", 2)]) (g := gName 2) (tt := tYes) rfl sc_is_printable.nd rfl rfl (sw_true rfl rfl rfl (by decide +kernel)) (pi_str (pv 0)) (blkOk_by (own := [("character", 2)]) (N := N_is_printable) (sc := defScope s_is_printable) (by decide +kernel)) (fun _ _ _ _ _ => pg_name (i := 2) sc_is_printable.nd rfl (Or.inl rfl)) (fun _ _ _ _ _ => pts_nil) (fun _ _ _ _ _ => (pe_callB WP.c_ord (by rfl) B.b_ord (by decide +kernel) (WP.pa_consN (pv 2) pa_nil))))
      (pss_one (ps_ret (WP.pe_allR hr rfl B.b_all rfl T rfl (WP.gsc_by (sc := defScope s_is_printable) (by decide +kernel)) (pv 1) B.c_FIRST_PRINTABLE B.c_LAST_PRINTABLE B.c_NOT_PRINTABLE rfl rfl rfl (fun _ => rfl)))))), ?_⟩
    k_updF
    refine WP.isY (.base (.str _)) ?_
    k_updF
    refine WP.brF rfl ?_
    k_updF
    refine ⟨_, rfl, fun D hD => WP.lc_txt (fun i Hx => Hx = upd H D (.lst ((l.take i).map fun c => V.int ((c : Nat) : Int)))) rfl ?_ ?_⟩
    · rintro i c Hx hc rfl
      have et : l.take (i + 1) = l.take i ++ [c] := by rw [List.take_succ, hc]; rfl
      k_updF
      refine ⟨rfl, ?_⟩
      refine WP.yes ?_
      k_updF
      refine WP.ordS rfl ?_
      refine ⟨_, upd_same, ?_, ?_⟩
      · rw [List.length_map, List.length_take, sizeLine_eq]; omega
      · rw [et, List.map_append, upd_upd]
        rfl
    rintro Hx rfl
    k_updF
    rw [List.take_length]
    have e1 : Same H (upd H D (.lst (l.map fun c => V.int ((c : Nat) : Int)))) := WP.same_new hD
    have hT' := (WP.Sm.of e1).t _ hT
    refine WP.var rfl ⟨hT', D, l.map fun c => ((c : Nat) : Int), rfl, SqL.of (by rw [upd_same, List.map_map]; rfl), fun H2 h2 => ?_⟩
    rw [MW.prn_codes]
    exact k _ ((WP.Sm.of e1).trans (.tab hT' h2))
  ))) only [D.box_eq]
end
abbrev s__end_of_string : Stmt := top 32
abbrev N__end_of_string : List Str := ["row", "line", "start", "at"]
theorem sc__end_of_string : FnScope N__end_of_string ["row", "line", "start"] (defScope s__end_of_string) := ⟨rfl, rfl, rfl, by decide +kernel, rfl, by decide +kernel, by decide +kernel⟩
def fndQ (l : List Nat) (n : Nat) : Int := match MT.cutR 39 (l.drop n) with
  | none => -1
  | some _ => ((n + (MT.cutW 39 (l.drop n)).length : Nat) : Int)
def sp__end_of_string (K : PySem.W.Frag) (mg : WP.MG) : Sp := fun vs H Q E => ∃ (l : List Nat) (r s : Nat), vs = [.int (r : Int), .str (SX.S l), .int (s : Int)] ∧ l.length ≤ 100000 ∧ s < l.length ∧
  (MK.sEnd (l.drop (s + 1)) (s + 1) = none → BPr mg H E (.int (r : Int)) (.str (SX.S [113, 117, 111, 116, 101]))) ∧
  ∀ a, MK.sEnd (l.drop (s + 1)) (s + 1) = some a → (¬ (l.drop (a + 1)).take 1 ∈ [[], [32]] → BPr mg H E (.int (r : Int)) (.str (SX.S [113, 117, 111, 116, 101]))) ∧ ((l.drop (a + 1)).take 1 ∈ [[], [32]] → WP.RetV (.int ((a + 1 : Nat) : Int)) H Q)
section
variable {P : Program} {w : World} {K : PySem.W.Frag} {mg : Str → Option Value} {base : Heap}
theorem ok__end_of_string {f : Addr} {fd : FuncData} (F : Fun K "_end_of_string" "_end_of_string" s__end_of_string f fd) (B : Blt w K mg) (c_BadProgram___init__ : WP.CalleeE P w K mg base CX0 1 "BadProgram" ["self", "line", "reason"] (sp_BadProgram___init__ K mg)) : FnOk P w K mg base (L2.CX P w) 3 f fd ["row", "line", "start"] (sp__end_of_string K mg) := by
  show D.Box _
  simp (discharger := (with_unfolding_all (
  refine F.okX sc__end_of_string (fun vs H Q E h => ?_) (fun cdv A outer s H vs Q E hr h => ?_)
  · first | (obtain ⟨_, rfl, _⟩ := h; rfl) | (obtain ⟨_, _, rfl, _⟩ := h; rfl) | (obtain ⟨_, _, _, rfl, _⟩ := h; rfl) | (obtain ⟨_, _, _, _, rfl, _⟩ := h; rfl) | (obtain ⟨_, _, _, _, _, rfl, _⟩ := h; rfl) | (obtain ⟨_, _, _, _, _, _, rfl, _⟩ := h; rfl) | (obtain ⟨_, _, _, _, _, _, _, rfl, _⟩ := h; rfl) | (obtain ⟨_, _, _, _, _, _, _, _, rfl, _⟩ := h; rfl) | (obtain ⟨rfl, _⟩ := h; rfl)
  · obtain ⟨l, r, s, rfl, hl, hs, kN, k⟩ := h
    refine ⟨_, (pss_cons (ps_set (i := 3) sc__end_of_string.nd rfl (Or.inl rfl) (pe_bm PySem.F.plainAttrs_str PySem.F.slot_str_find PySem.F.type_str_find mt_find3 (pv 1) (WP.pa_consN (WP.pe_const (by rfl) B.c_QUOTE) (WP.pa_consN (pe_op op_add (pv 2) pe_int) pa_nil))))
      (pss_cons (ps_while (passes_of rfl) (PW.pt (pw_and (pt_cmpR op_ge (pv 3) pe_int (nomark _)) (pw_and1 (pt_cmpR op_eq (pe_slice sl_str (pv 1) (po_some (pe_op op_add (pv 3) pe_int)) (po_some (pe_op op_add (pv 3) pe_int))) (WP.pe_const (by rfl) B.c_QUOTE) (nomark _))))) (pss_one (ps_set (i := 3) sc__end_of_string.nd rfl (Or.inl rfl) (pe_bm PySem.F.plainAttrs_str PySem.F.slot_str_find PySem.F.type_str_find mt_find3 (pv 1) (WP.pa_consN (WP.pe_const (by rfl) B.c_QUOTE) (WP.pa_consN (pe_op op_add (pv 3) pe_int) pa_nil))))))
      (pss_cons (ps_if (PW.pt (pw_or (pt_cmpR op_lt (pv 3) pe_int (nomark _)) (pw_or1 (pt_cmpR op_notIn_seq (pe_slice sl_str (pv 1) (po_some (pe_op op_add (pv 3) pe_int)) (po_some (pe_op op_add (pv 3) pe_int))) (pe_tup (WP.pa_consN (WP.pe_strL [] (by decide +kernel)) (WP.pa_consN (WP.pe_strL [32] (by decide +kernel)) pa_nil))) rfl)))) (pss_one (WP.ps_raiseE rfl (takes_of rfl rfl rfl rfl) B.xi_BadProgram c_BadProgram___init__ (hr.mono (by decide)) pass0 (by rfl) (WP.pa_consN (pv 0) (WP.pa_consN (WP.pe_strL [113, 117, 111, 116, 101] (by decide +kernel)) pa_nil)))) pss_nil)
      (pss_one (ps_ret (pe_op op_add (pv 3) pe_int)))))), ?_⟩
    have hz : l.length ≤ sizeLine := by rw [sizeLine_eq]; omega
    have hf : ∀ n, n ≤ l.length → Txt.find3 (SX.S l) (SX.S [39]) (n : Int) = fndQ l n := fun n hn => MR.find_S 39 l n hn
    generalize hS : MK.sEnd (l.drop (s + 1)) (s + 1) = S at kN k
    k_updF
    refine ⟨_, _, _, rfl, rfl, ?_⟩
    rw [show (s : Int) + 1 = ((s + 1 : Nat) : Int) by omega, hf _ (by omega)]
    k_updF
    refine ⟨fun m σ' H' => H' = H ∧ ∃ n : Nat, n ≤ l.length ∧ l.length - n = m ∧ σ' = [some (.int (r : Int)), some (.str (SX.S l)), some (.int (s : Int)), some (.int (fndQ l n))] ∧ MK.sEnd (l.drop n) n = S, ⟨_, rfl, s + 1, by omega, rfl, rfl, hS⟩, ?_⟩
    rintro m σ' H' ⟨rfl, n, hn, rfl, rfl, hSn⟩
    cases hc : MT.cutR 39 (l.drop n) with
    | none =>
      have e : fndQ l n = -1 := by unfold fndQ; rw [hc]
      rw [MK.sEnd_none _ _ hc] at hSn
      rw [e]
      k_updF
      refine WP.brF (decide_eq_false (show ¬ (0 : Int) ≤ -1 by decide)) ?_
      refine WP.brF rfl ?_
      k_updF
      refine WP.brT (decide_eq_true (show (-1 : Int) < 0 by decide)) ?_
      refine WP.brT rfl ?_
      refine WP.mko ?_
      k_updF
      exact raise_BP (kN hSn.symm)
    | some q =>
      have e : fndQ l n = ((n + (MT.cutW 39 (l.drop n)).length : Nat) : Int) := by unfold fndQ; rw [hc]
      obtain ⟨h1, h2, h3⟩ := MK.sEnd_some _ n _ hc
      rw [h1] at hSn
      rw [List.length_drop] at h3
      generalize (MT.cutW 39 (l.drop n)).length = len at *
      rw [List.drop_drop] at h2
      have hp : n + len < l.length := by omega
      rw [e]
      have hp0 : (0 : Int) ≤ ((n + len : Nat) : Int) := by omega
      k_updF
      refine WP.brT (decide_eq_true hp0) ?_
      k_updF
      refine WP.slBoth (by omega) (by omega) hz ?_
      rw [show (((n + len : Nat) : Int) + 1).toNat = n + (len + 1) by omega, h2, show (((n + len : Nat) : Int) + 2 - (((n + len : Nat) : Int) + 1)).toNat = 1 by omega]
      k_updF
      refine WP.br (fun c => ?_) (fun c => ?_)
      · have hq : q ≠ [] := fun z => by rw [z] at c; cases c
        have hlq : n + len + 2 ≤ l.length := by
          have := congrArg List.length h2
          rw [List.length_drop] at this
          have := List.length_pos_iff.mpr hq
          omega
        rw [if_pos c] at hSn
        refine ⟨fun σ' H2 => ∃ m', m' < l.length - n ∧ H2 = H' ∧ ∃ n : Nat, n ≤ l.length ∧ l.length - n = m' ∧ σ' = [some (.int (r : Int)), some (.str (SX.S l)), some (.int (s : Int)), some (.int (fndQ l n))] ∧ MK.sEnd (l.drop n) n = S, fun _ _ x => x, ?_⟩
        k_updF
        refine ⟨_, _, _, rfl, rfl, ?_⟩
        rw [show ((n + len : Nat) : Int) + 2 = ((n + len + 2 : Nat) : Int) by omega, hf _ hlq]
        k_updF
        refine ⟨l.length - (n + len + 2), by omega, rfl, n + len + 2, hlq, rfl, rfl, ?_⟩
        rw [← hSn, ← h2, List.drop_drop, show n + (len + 1) + 1 = n + len + 2 by omega]
      · rw [if_neg c] at hSn
        obtain ⟨kE, kQ⟩ := k _ hSn.symm
        rw [show n + len + 1 = n + (len + 1) by omega, h2] at kE kQ
        k_updF
        refine WP.brF (decide_eq_false (by omega)) ?_
        k_updF
        refine WP.slBoth (by omega) (by omega) hz ?_
        rw [show (((n + len : Nat) : Int) + 1).toNat = n + (len + 1) by omega, h2, show (((n + len : Nat) : Int) + 2 - (((n + len : Nat) : Int) + 1)).toNat = 1 by omega]
        k_updF
        refine ⟨WP.sz2, fun T hT => ?_⟩
        refine WP.notInT [[], [32]] (SqT.of upd_same) rfl ?_
        refine ⟨_, rfl, ?_⟩
        have e1 : Same H' (upd H' T (.tup [.str (SX.S []), .str (SX.S [32])])) := WP.same_new hT
        refine WP.brN (fun c => ?_) (fun c => ?_)
        · refine WP.mko ?_
          k_updF
          exact raise_BP fun d H2 e2 hd => kE c d H2 (e1.trans e2) hd
        · k_updF
          exact kQ c _ e1
  ))) only [D.box_eq]
end
abbrev s__end_of_word : Stmt := top 33
abbrev N__end_of_word : List Str := ["row", "line", "start", "space", "end"]
theorem sc__end_of_word : FnScope N__end_of_word ["row", "line", "start"] (defScope s__end_of_word) := ⟨rfl, rfl, rfl, by decide +kernel, rfl, by decide +kernel, by decide +kernel⟩
def sp__end_of_word (K : PySem.W.Frag) (mg : WP.MG) : Sp := fun vs H Q E => ∃ (l : List Nat) (r s : Nat), vs = [.int (r : Int), .str (SX.S l), .int (s : Int)] ∧ l.length ≤ 100000 ∧ s ≤ l.length ∧
  (39 ∈ MT.cutW 32 (l.drop s) → BPr mg H E (.int (r : Int)) (.str (SX.S [113, 117, 111, 116, 101]))) ∧ (¬ 39 ∈ MT.cutW 32 (l.drop s) → Q (.int (eow l s : Int)) H)
section
variable {P : Program} {w : World} {K : PySem.W.Frag} {mg : Str → Option Value} {base : Heap}
theorem ok__end_of_word {f : Addr} {fd : FuncData} (F : Fun K "_end_of_word" "_end_of_word" s__end_of_word f fd) (B : Blt w K mg) (c_BadProgram___init__ : WP.CalleeE P w K mg base CX0 1 "BadProgram" ["self", "line", "reason"] (sp_BadProgram___init__ K mg)) : FnOk P w K mg base (L2.CX P w) 3 f fd ["row", "line", "start"] (sp__end_of_word K mg) := by
  show D.Box _
  simp (discharger := (with_unfolding_all (
  refine F.okX sc__end_of_word (fun vs H Q E h => ?_) (fun cdv A outer s H vs Q E hr h => ?_)
  · first | (obtain ⟨_, rfl, _⟩ := h; rfl) | (obtain ⟨_, _, rfl, _⟩ := h; rfl) | (obtain ⟨_, _, _, rfl, _⟩ := h; rfl) | (obtain ⟨_, _, _, _, rfl, _⟩ := h; rfl) | (obtain ⟨_, _, _, _, _, rfl, _⟩ := h; rfl) | (obtain ⟨_, _, _, _, _, _, rfl, _⟩ := h; rfl) | (obtain ⟨_, _, _, _, _, _, _, rfl, _⟩ := h; rfl) | (obtain ⟨_, _, _, _, _, _, _, _, rfl, _⟩ := h; rfl) | (obtain ⟨rfl, _⟩ := h; rfl)
  · obtain ⟨l, r, s, rfl, hl, hs, kE, k⟩ := h
    refine ⟨_, (pss_cons (ps_set (i := 3) sc__end_of_word.nd rfl (Or.inl rfl) (pe_bm PySem.F.plainAttrs_str PySem.F.slot_str_find PySem.F.type_str_find mt_find3 (pv 1) (WP.pa_consN (WP.pe_strL [32] (by decide +kernel)) (WP.pa_consN (pv 2) pa_nil))))
      (Evl.pss_cut (ps_set (i := 4) sc__end_of_word.nd rfl (Or.inl rfl) (pe_ifExp (pt_cmpR op_lt (pv 3) pe_int (nomark _)) (pe_callB WP.c_len (by rfl) B.b_len (by decide +kernel) (WP.pa_consN (pv 1) pa_nil)) (pv 3)))
      (pss_cons (ps_if (pt_cmpR WP.op_inSign (WP.pe_const (by rfl) B.c_QUOTE) (pe_slice sl_str (pv 1) (po_some (pv 2)) (po_some (pv 4))) rfl) (pss_one (WP.ps_raiseE rfl (takes_of rfl rfl rfl rfl) B.xi_BadProgram c_BadProgram___init__ (hr.mono (by decide)) pass0 (by rfl) (WP.pa_consN (pv 0) (WP.pa_consN (WP.pe_strL [113, 117, 111, 116, 101] (by decide +kernel)) pa_nil)))) pss_nil)
      (pss_one (ps_ret (pv 4)))))), ?_⟩
    have hz : l.length ≤ sizeLine := by rw [sizeLine_eq]; omega
    k_updF
    refine ⟨_, _, _, rfl, rfl, ?_⟩
    rw [MR.find_S 32 l s hs]
    have hw : (MT.cutW 32 (l.drop s)).length ≤ l.length - s := by
      have := congrArg List.length (cut_take 32 (l.drop s))
      rw [List.length_take, List.length_drop] at this
      omega
    have he : eow l s ≤ l.length := by unfold eow; omega
    k_updF
    refine WP.cut (fun σ' H' => H' = H ∧ ∃ sp : V, σ' = [some (.int (r : Int)), some (.str (SX.S l)), some (.int (s : Int)), some sp, some (.int (eow l s : Int))]) ?_ ?_
    · k_updF
      cases hc : MT.cutR 32 (l.drop s) with
      | none =>
        refine WP.brT (decide_eq_true (show (-1 : Int) < 0 by decide)) ?_
        k_updF
        refine WP.lenS' hz ?_
        k_updF
        refine ⟨rfl, .int (-1), ?_⟩
        have : eow l s = l.length := by unfold eow; rw [cut_all hc, List.length_drop]; omega
        rw [this]
        rfl
      | some q =>
        refine WP.brF (decide_eq_false (by show ¬ ((s + (MT.cutW 32 (l.drop s)).length : Nat) : Int) < 0; omega)) ?_
        k_updF
        exact ⟨rfl, _, rfl⟩
    rintro σ' H' ⟨rfl, sp, rfl⟩
    k_updF
    refine WP.slBoth (by omega) (by unfold eow; omega) hz ?_
    rw [Int.toNat_natCast, show (((eow l s : Nat) : Int) - (s : Int)).toNat = (MT.cutW 32 (l.drop s)).length by unfold eow; omega, cut_take]
    refine WP.inSign ?_
    refine ⟨_, rfl, ?_⟩
    refine WP.br (fun c => ?_) (fun c => ?_)
    · refine WP.mko ?_
      k_updF
      exact raise_BP (kE c)
    · k_updF
      exact k c
  ))) only [D.box_eq]
end
abbrev s__tokens_of_line : Stmt := top 31
abbrev N__tokens_of_line : List Str := ["row", "line", "found", "at", "end", "string"]
theorem sc__tokens_of_line : FnScope N__tokens_of_line ["row", "line"] (defScope s__tokens_of_line) := ⟨rfl, rfl, rfl, by decide +kernel, rfl, by decide +kernel, by decide +kernel⟩
/-- a list of tokens of a row -/
def TksAt (K : PySem.W.Frag) (H : Hp) (r : Int) (as : List Addr) (ts : List Tk) : Prop := as.length = ts.length ∧ ∀ (i : Nat) (a : Addr) (t : Tk), as[i]? = some a → ts[i]? = some t → SqT K H a (t.vs r)
theorem TksAt.app {K : PySem.W.Frag} {H1 H2 : Hp} {r : Int} {as : List Addr} {ts : List Tk} {L p : Addr} {xs : List V} {o : HO} {t : Tk} (h : TksAt K H1 r as ts) (e : Same H1 H2) (hL : H2 L = some (.lst xs)) (hp : SqT K H2 p (t.vs r)) : TksAt K (upd H2 L o) r (as ++ [p]) (ts ++ [t]) := by
  obtain ⟨h1, h2⟩ := h
  refine ⟨by rw [List.length_append, List.length_append, h1]; rfl, fun j a' t' ha ht => ?_⟩
  rcases Nat.lt_or_ge j as.length with hj | hj
  · rw [List.getElem?_append_left hj] at ha
    rw [List.getElem?_append_left (by omega)] at ht
    exact WP.sqtX (d := L) WP.Sx.upd hL (WP.sqt e (h2 j a' t' ha ht))
  · rw [List.getElem?_append_right hj] at ha
    rw [List.getElem?_append_right (by omega)] at ht
    have hj0 : j - as.length = 0 := by
      have := (List.getElem?_eq_some_iff.mp ha).1
      simp at this; omega
    rw [← h1] at ht
    rw [hj0] at ha ht
    cases ha
    cases ht
    exact WP.sqtX (d := L) WP.Sx.upd hL hp
theorem om {o : Option (List Tk)} {ts : List Tk} {t : Tk} : (o.map (t :: ·)).map (ts ++ ·) = o.map ((ts ++ [t]) ++ ·) := by
  cases o with
  | none => rfl
  | some x => show some (ts ++ t :: x) = some (ts ++ [t] ++ x); rw [List.append_assoc]; rfl
theorem run_lt {l : List Nat} {n c : Nat} (h : l[n]? = some c) : n < l.length := (List.getElem?_eq_some_iff.mp h).1
theorem eow_ok {l : List Nat} {n c : Nat} (h : l[n]? = some c) (h1 : c ≠ 32) : n < eow l n ∧ eow l n ≤ l.length ∧ (l.drop n).take (eow l n - n) = MT.cutW 32 (l.drop n) := by
  have hn := run_lt h
  have hd := MP.drop_some h
  have hw : (MT.cutW 32 (l.drop n)).length ≤ l.length - n := by
    have := congrArg List.length (cut_take 32 (l.drop n))
    rw [List.length_take, List.length_drop] at this
    omega
  have h0 : 1 ≤ (MT.cutW 32 (l.drop n)).length := by
    rw [hd, (MR.cut_consNe h1).1]
    show 1 ≤ _ + 1
    omega
  unfold eow
  refine ⟨by omega, by omega, ?_⟩
  rw [show n + (MT.cutW 32 (l.drop n)).length - n = (MT.cutW 32 (l.drop n)).length by omega, cut_take]
def sp__tokens_of_line (K : PySem.W.Frag) (mg : WP.MG) : Sp := fun vs H Q E => ∃ (l : List Nat) (r : Nat) (o : Option (List Tk)), vs = [.int (r : Int), .str (SX.S l)] ∧ l.length ≤ 100000 ∧ Run l 0 o ∧
  (o = none → BPr mg H E (.int (r : Int)) (.str (SX.S [113, 117, 111, 116, 101]))) ∧
  ∀ ts, o = some ts → ∀ (L : Addr) (as : List Addr) (H' : Hp), Same H H' → H' L = some (.lst (as.map V.ref)) → H L = none → as.length ≤ l.length → TksAt K H' (r : Int) as ts → Q (.ref L) H'
section
variable {P : Program} {w : World} {K : PySem.W.Frag} {mg : Str → Option Value} {base : Heap}
theorem ok__tokens_of_line {f : Addr} {fd : FuncData} (F : Fun K "_tokens_of_line" "_tokens_of_line" s__tokens_of_line f fd) (B : Blt w K mg) (c__end_of_string : WP.Callee P w K mg base (L2.CX P w) 3 "_end_of_string" ["row", "line", "start"] (sp__end_of_string K mg)) (c__end_of_word : WP.Callee P w K mg base (L2.CX P w) 3 "_end_of_word" ["row", "line", "start"] (sp__end_of_word K mg)) : FnOk P w K mg base (L2.CX P w) 4 f fd ["row", "line"] (sp__tokens_of_line K mg) := by
  show D.Box _
  simp (discharger := (with_unfolding_all (
  refine F.okX sc__tokens_of_line (fun vs H Q E h => ?_) (fun cdv A outer s H vs Q E hr h => ?_)
  · first | (obtain ⟨_, rfl, _⟩ := h; rfl) | (obtain ⟨_, _, rfl, _⟩ := h; rfl) | (obtain ⟨_, _, _, rfl, _⟩ := h; rfl) | (obtain ⟨_, _, _, _, rfl, _⟩ := h; rfl) | (obtain ⟨_, _, _, _, _, rfl, _⟩ := h; rfl) | (obtain ⟨_, _, _, _, _, _, rfl, _⟩ := h; rfl) | (obtain ⟨_, _, _, _, _, _, _, rfl, _⟩ := h; rfl) | (obtain ⟨_, _, _, _, _, _, _, _, rfl, _⟩ := h; rfl) | (obtain ⟨rfl, _⟩ := h; rfl)
  · obtain ⟨l, r, o, rfl, hl, hR, kE, k⟩ := h
    refine ⟨_, (pss_cons (ps_set (i := 2) sc__tokens_of_line.nd rfl (Or.inl rfl) (pe_lst pa_nil))
      (pss_cons (ps_set (i := 3) sc__tokens_of_line.nd rfl (Or.inl rfl) pe_int)
      (pss_cons (ps_while (passes_of rfl) (pt_cmpR op_lt (pv 3) (pe_callB WP.c_len (by rfl) B.b_len (by decide +kernel) (WP.pa_consN (pv 1) pa_nil)) (nomark _)) (pss_one (ps_if (pt_cmpR op_eq (pe_ix ix_str (pv 1) (pv 3) (fun _ _ => rfl)) (WP.pe_strL [32] (by decide +kernel)) (nomark _)) (pss_one (ps_set (i := 3) sc__tokens_of_line.nd rfl (Or.inl rfl) (pe_op op_add (pv 3) pe_int))) (pss_one (ps_if (pt_cmpR op_eq (pe_ix ix_str (pv 1) (pv 3) (fun _ _ => rfl)) (WP.pe_const (by rfl) B.c_QUOTE) (nomark _)) (pss_cons (ps_set (i := 4) sc__tokens_of_line.nd rfl (Or.inl rfl) (WP.pe_callC c__end_of_string hr rfl (WP.passX rfl rfl rfl rfl) (WP.pa_consN (pv 0) (WP.pa_consN (pv 1) (WP.pa_consN (pv 3) pa_nil)))))
      (pss_cons (ps_set (i := 5) sc__tokens_of_line.nd rfl (Or.inl rfl) (pe_slice sl_str (pv 1) (po_some (pe_op op_add (pv 3) pe_int)) (po_some (pe_op op_sub (pv 4) pe_int))))
      (pss_cons (ps_expr (pe_bm PySem.F.plainAttrs_list PySem.F.slot_list_append PySem.F.type_list_append mt_append (pv 2) (WP.pa_consN (pe_tup (WP.pa_consN (pv 0) (WP.pa_consN (WP.pe_strL [115, 116, 114, 105, 110, 103] (by decide +kernel)) (WP.pa_consN (WR.pe_replK (pv 5) (by rfl) (by rfl) B.rp_DOUBLED_QUOTE_QUOTE) pa_nil)))) pa_nil)))
      (pss_one (ps_set (i := 3) sc__tokens_of_line.nd rfl (Or.inl rfl) (pv 4)))))) (pss_cons (ps_set (i := 4) sc__tokens_of_line.nd rfl (Or.inl rfl) (WP.pe_callC c__end_of_word hr rfl (WP.passX rfl rfl rfl rfl) (WP.pa_consN (pv 0) (WP.pa_consN (pv 1) (WP.pa_consN (pv 3) pa_nil)))))
      (pss_cons (ps_expr (pe_bm PySem.F.plainAttrs_list PySem.F.slot_list_append PySem.F.type_list_append mt_append (pv 2) (WP.pa_consN (pe_tup (WP.pa_consN (pv 0) (WP.pa_consN (WP.pe_strL [119, 111, 114, 100] (by decide +kernel)) (WP.pa_consN (pe_slice sl_str (pv 1) (po_some (pv 3)) (po_some (pv 4))) pa_nil)))) pa_nil)))
      (pss_one (ps_set (i := 3) sc__tokens_of_line.nd rfl (Or.inl rfl) (pv 4))))))))))
      (pss_one (ps_ret (pv 2)))))), ?_⟩
    have hz : l.length ≤ sizeLine := by rw [sizeLine_eq]; omega
    k_updF
    refine ⟨WP.sz (by decide), fun L hL => ?_⟩
    k_updF
    refine ⟨fun m σ' H' => Same H H' ∧ ∃ (n : Nat) (ts : List Tk) (o' : Option (List Tk)) (as : List Addr) (z4 z5 : Option V), n ≤ l.length ∧ l.length - n = m ∧ as.length ≤ n ∧ σ' = [some (.int (r : Int)), some (.str (SX.S l)), some (.ref L), some (.int (n : Int)), z4, z5] ∧ H' L = some (.lst (as.map V.ref)) ∧ TksAt K H' (r : Int) as ts ∧ Run l n o' ∧ o = o'.map (ts ++ ·),
      ⟨_, WP.same_new hL, 0, [], o, [], none, none, Nat.zero_le _, rfl, Nat.le_refl _, rfl, upd_same, ⟨rfl, fun i a t h => by cases h⟩, hR, by cases o <;> rfl⟩, ?_⟩
    rintro m σ' H1 ⟨e1, n, ts, o', as, z4, z5, hn, rfl, has, rfl, hl1, hts, hRn, ho⟩
    have hzl : (as.map V.ref).length < sizeLine := by rw [List.length_map, sizeLine_eq]; omega
    k_updF
    refine WP.lenS' hz ?_
    k_updF
    have fin : ∀ (n' : Nat) (t : Tk) (o2 : Option (List Tk)) (p : Addr) (H2 : Hp) (y4 y5 : Option V), n < n' → n' ≤ l.length → Same H1 H2 → SqT K H2 p (t.vs (r : Int)) → Run l n' o2 → o = (o2.map (t :: ·)).map (ts ++ ·) →
        ∃ m', m' < l.length - n ∧ Same H (upd H2 L (.lst (as.map V.ref ++ [.ref p]))) ∧ ∃ (n : Nat) (ts : List Tk) (o' : Option (List Tk)) (as' : List Addr) (z4 z5 : Option V), n ≤ l.length ∧ l.length - n = m' ∧ as'.length ≤ n ∧ [some (V.int (r : Int)), some (.str (SX.S l)), some (.ref L), some (.int (n' : Int)), y4, y5] = [some (.int (r : Int)), some (.str (SX.S l)), some (.ref L), some (.int (n : Int)), z4, z5] ∧ (upd H2 L (.lst (as.map V.ref ++ [.ref p]))) L = some (.lst (as'.map V.ref)) ∧ TksAt K (upd H2 L (.lst (as.map V.ref ++ [.ref p]))) (r : Int) as' ts ∧ Run l n o' ∧ o = o'.map (ts ++ ·) :=
      fun n' t o2 p H2 y4 y5 h1 h2 e2 hp hr ho => ⟨l.length - n', by omega, WP.same_mut (e1.trans e2) hL, n', ts ++ [t], o2, as ++ [p], y4, y5, h2, rfl, by rw [List.length_append, List.length_singleton]; omega, rfl, by rw [upd_same, List.map_append]; rfl, hts.app e2 (e2 _ _ hl1) hp, hr, by rw [ho, om]⟩
    have W2 : ∀ (y : Option (List Tk)), True := fun _ => True.intro
    by_cases hlt : n < l.length
    · refine WP.brT (decide_eq_true (by omega)) ?_
      refine ⟨fun σ' H2 => ∃ m', m' < l.length - n ∧ Same H H2 ∧ ∃ (n : Nat) (ts : List Tk) (o' : Option (List Tk)) (as' : List Addr) (z4 z5 : Option V), n ≤ l.length ∧ l.length - n = m' ∧ as'.length ≤ n ∧ σ' = [some (.int (r : Int)), some (.str (SX.S l)), some (.ref L), some (.int (n : Int)), z4, z5] ∧ H2 L = some (.lst (as'.map V.ref)) ∧ TksAt K H2 (r : Int) as' ts ∧ Run l n o' ∧ o = o'.map (ts ++ ·), fun _ _ x => x, ?_⟩
      have hat : ∀ {c : Nat}, l[n]? = some c → atI l (n : Int) = some c := fun h => atI_nat h
      cases hRn with
      | stop h => omega
      | space h rr =>
        k_updF
        refine WP.ixS1 (hat h) hz ?_
        k_updF
        refine WP.brT (by decide) ?_
        k_updF
        exact ⟨l.length - (n + 1), by omega, e1, n + 1, ts, _, as, z4, z5, by omega, rfl, by omega, rfl, hl1, hts, rr, ho⟩
      | @str _ a s o2 h e g hs ha rr =>
        k_updF
        refine WP.ixS1 (hat h) hz ?_
        k_updF
        refine WP.brF (by decide) ?_
        k_updF
        refine WP.ixS1 (hat h) hz ?_
        k_updF
        refine WP.brT (by decide) ?_
        k_updF
        refine ⟨l, r, n, rfl, hl, hlt, (fun z => by rw [e] at z; cases z), fun a' ea => ?_⟩
        obtain rfl : a = a' := by rw [e] at ea; exact Option.some.inj ea
        refine ⟨fun z => absurd g z, fun _ H2 e2 => ?_⟩
        have hsl := MK.dq_len s
        have hsd : (MK.dq s).length ≤ 100000 := by rw [← hs, List.length_take, List.length_drop]; omega
        k_updF
        refine WP.slBoth (by omega) (by omega) hz ?_
        rw [show ((n : Int) + 1).toNat = n + 1 by omega, show (((a + 1 : Nat) : Int) - 1 - ((n : Int) + 1)).toNat = a - (n + 1) by omega, hs]
        k_updF
        refine WP.tyL (SqL.of (e2 _ _ hl1)) ?_
        k_updF
        refine WR.repl ?_
        k_updF
        refine ⟨_, rfl, by rw [SX.S_len, show ("'" : Str).length = 1 from by decide +kernel]; omega, ?_⟩
        rw [MK.repl_uq]
        k_updF
        refine ⟨WP.sz (show 3 ≤ 1000000 by decide), fun p hp => ?_⟩
        have e3 : Same H2 (upd H2 p (.tup (Tk.vs (r : Int) (true, s)))) := WP.same_new hp
        k_updF
        refine WP.appL (e3 _ _ (e2 _ _ hl1)) hzl ?_
        k_updF
        exact fin (a + 1) (true, s) o2 p _ _ _ (by omega) (by omega) (e2.trans e3) (SqT.of upd_same) rr ho
      | bad1 h e =>
        k_updF
        refine WP.ixS1 (hat h) hz ?_
        k_updF
        refine WP.brF (by decide) ?_
        k_updF
        refine WP.ixS1 (hat h) hz ?_
        k_updF
        refine WP.brT (by decide) ?_
        k_updF
        exact ⟨l, r, n, rfl, hl, hlt, fun _ d H2 e2 hd => kE ho d H2 (e1.trans e2) hd, fun a ea => by rw [e] at ea; cases ea⟩
      | @bad2 _ a h e g =>
        k_updF
        refine WP.ixS1 (hat h) hz ?_
        k_updF
        refine WP.brF (by decide) ?_
        k_updF
        refine WP.ixS1 (hat h) hz ?_
        k_updF
        refine WP.brT (by decide) ?_
        k_updF
        refine ⟨l, r, n, rfl, hl, hlt, (fun z => by rw [e] at z; cases z), fun a' ea => ?_⟩
        obtain rfl : a = a' := by rw [e] at ea; exact Option.some.inj ea
        exact ⟨fun _ d H2 e2 hd => kE ho d H2 (e1.trans e2) hd, fun z => absurd z g⟩
      | @word _ c o2 h h1 h2 g rr =>
        obtain ⟨w1, w2, w3⟩ := eow_ok h h1
        k_updF
        refine WP.ixS1 (hat h) hz ?_
        k_updF
        refine WP.brF (decide_eq_false (by simpa using h1)) ?_
        k_updF
        refine WP.ixS1 (hat h) hz ?_
        k_updF
        refine WP.brF (decide_eq_false (by simpa using h2)) ?_
        k_updF
        refine ⟨l, r, n, rfl, hl, hn, fun z => absurd z g, fun _ => ?_⟩
        k_updF
        refine WP.tyL (SqL.of hl1) ?_
        k_updF
        refine WP.slBoth (by omega) (by omega) hz ?_
        rw [Int.toNat_natCast, show (((eow l n : Nat) : Int) - (n : Int)).toNat = eow l n - n by omega, w3]
        k_updF
        refine ⟨WP.sz (show 3 ≤ 1000000 by decide), fun p hp => ?_⟩
        have e3 : Same H1 (upd H1 p (.tup (Tk.vs (r : Int) (false, MT.cutW 32 (l.drop n))))) := WP.same_new hp
        k_updF
        refine WP.appL (e3 _ _ hl1) hzl ?_
        k_updF
        exact fin (eow l n) (false, MT.cutW 32 (l.drop n)) o2 p _ _ _ w1 w2 e3 (SqT.of upd_same) rr ho
      | bad3 h h1 h2 g =>
        k_updF
        refine WP.ixS1 (hat h) hz ?_
        k_updF
        refine WP.brF (decide_eq_false (by simpa using h1)) ?_
        k_updF
        refine WP.ixS1 (hat h) hz ?_
        k_updF
        refine WP.brF (decide_eq_false (by simpa using h2)) ?_
        k_updF
        exact ⟨l, r, n, rfl, hl, hn, fun _ d H2 e2 hd => kE ho d H2 (e1.trans e2) hd, fun z => absurd g z⟩
    · refine WP.brF (decide_eq_false (by omega)) ?_
      k_updF
      have : o' = some [] := by
        cases hRn with
        | stop h => rfl
        | space h => exact absurd (run_lt h) hlt
        | str h => exact absurd (run_lt h) hlt
        | bad1 h => exact absurd (run_lt h) hlt
        | bad2 h => exact absurd (run_lt h) hlt
        | word h => exact absurd (run_lt h) hlt
        | bad3 h => exact absurd (run_lt h) hlt
      subst this
      exact k ts (by rw [ho]; show some (ts ++ []) = _; rw [List.append_nil]) L as H1 e1 hl1 hL (by omega) hts
  ))) only [D.box_eq]
end
abbrev s_tokens : Stmt := top 28
abbrev N_tokens : List Str := ["text", "lines", "at", "line", "found"]
theorem sc_tokens : FnScope N_tokens ["text"] (defScope s_tokens) := ⟨rfl, rfl, rfl, by decide +kernel, rfl, by decide +kernel, by decide +kernel⟩
/-- BadProgram is raised, tables grown -/
def BPm (mg : WP.MG) (H : Hp) (E : XK) (x y : V) : Prop := ∀ (d : Addr) (H' : Hp), WP.Sm H H' → H' d = some (.xd (BPf x y)) → E (.ref (WP.ca mg "BadProgram")) (some d) H'
theorem len_flat : ∀ (ls : List (List Nat)) (x : List Nat), x ∈ ls → x.length ≤ ls.flatten.length
  | y :: r, x, h => by
    rw [List.flatten_cons, List.length_append]
    rcases List.mem_cons.mp h with e | e
    · rw [e]; omega
    · have := len_flat r x e
      omega
theorem RtAt.app {K : PySem.W.Frag} {H1 H2 : Hp} {as bs : List Addr} {ts : List (Nat × Tk)} {us : List Tk} {n : Nat} {L : Addr} {xs : List V} {o : HO} (h : RtAt K H1 as ts) (e : Same H1 H2) (hL : H2 L = some (.lst xs)) (hb : TksAt K H2 (n : Int) bs us) : RtAt K (upd H2 L o) (as ++ bs) (ts ++ us.map fun t => (n, t)) := by
  obtain ⟨h1, h2⟩ := h
  obtain ⟨b1, b2⟩ := hb
  refine ⟨by rw [List.length_append, List.length_append, List.length_map, h1, b1], fun j a' t' ha ht => ?_⟩
  rcases Nat.lt_or_ge j as.length with hj | hj
  · rw [List.getElem?_append_left hj] at ha
    rw [List.getElem?_append_left (by omega)] at ht
    exact WP.sqtX (d := L) WP.Sx.upd hL (WP.sqt e (h2 j a' t' ha ht))
  · rw [List.getElem?_append_right hj] at ha
    rw [List.getElem?_append_right (by omega), List.getElem?_map, ← h1] at ht
    cases eu : us[j - as.length]? with
    | none => rw [eu] at ht; cases ht
    | some u =>
      rw [eu] at ht
      cases ht
      exact WP.sqtX (d := L) WP.Sx.upd hL (b2 _ a' u ha eu)
theorem in_flat {l : List Nat} {i : Nat} {x : List Nat} (h : (lns l)[i]? = some x) : x.length ≤ l.length := by
  have h1 := MT.spl_flat (c := 10) l.length l (Nat.le_refl _)
  have hm : x ∈ TL.spl [10] 0 [] l := List.mem_of_getElem? h
  have h2 := len_flat (TL.spl [10] 0 [] l) x hm
  omega
def sp_tokens (K : PySem.W.Frag) (mg : WP.MG) : Sp := fun vs H Q E => ∃ (l : List Nat), vs = [.str (SX.S l)] ∧ l.length ≤ 100000 ∧ GxR.TabG H (WP.tbl K "is_printable") ∧
  (40000 < l.length → BPm mg H E (.int 0) (.str (SX.S [115, 105, 122, 101]))) ∧
  (l.length ≤ 40000 →
    (∀ (i : Nat) (x : List Nat), (lns l)[i]? = some x → MW.prn x = false → (∀ (j : Nat) (y : List Nat), j < i → (lns l)[j]? = some y → MW.prn y = true) → BPm mg H E (.int ((i + 1 : Nat) : Int)) CHR) ∧
    ((∀ x ∈ lns l, MW.prn x = true) →
      ∃ os : List (Option (List Tk)), os.length = (lns l).length ∧ (∀ (i : Nat) (x : List Nat) (o : Option (List Tk)), (lns l)[i]? = some x → os[i]? = some o → Run x 0 o) ∧
        (∀ i : Nat, os[i]? = some none → (∀ j : Nat, j < i → os[j]? ≠ some none) → BPm mg H E (.int ((i + 1 : Nat) : Int)) QUO) ∧
        ∀ ts : List (List Tk), os = ts.map some → ∀ (L : Addr) (as : List Addr) (H' : Hp), WP.Sm H H' → H' L = some (.lst (as.map V.ref)) → RtAt K H' as (rowsF 1 ts) → Q (.ref L) H'))
section
variable {P : Program} {w : World} {K : PySem.W.Frag} {mg : Str → Option Value} {base : Heap}
theorem ok_tokens {f : Addr} {fd : FuncData} (F : Fun K "tokens" "tokens" s_tokens f fd) (B : Blt w K mg) (c_BadProgram___init__ : WP.CalleeE P w K mg base CX0 1 "BadProgram" ["self", "line", "reason"] (sp_BadProgram___init__ K mg)) (c_is_printable : WP.Callee P w K mg base CX0 1 "is_printable" ["value"] (sp_is_printable K mg)) (c__tokens_of_line : WP.Callee P w K mg base (L2.CX P w) 4 "_tokens_of_line" ["row", "line"] (sp__tokens_of_line K mg)) : FnOk P w K mg base (L2.CX P w) 5 f fd ["text"] (sp_tokens K mg) := by
  show D.Box _
  simp (discharger := (with_unfolding_all (
  refine F.okX sc_tokens (fun vs H Q E h => ?_) (fun cdv A outer s H vs Q E hr h => ?_)
  · first | (obtain ⟨_, rfl, _⟩ := h; rfl) | (obtain ⟨_, _, rfl, _⟩ := h; rfl) | (obtain ⟨_, _, _, rfl, _⟩ := h; rfl) | (obtain ⟨_, _, _, _, rfl, _⟩ := h; rfl) | (obtain ⟨_, _, _, _, _, rfl, _⟩ := h; rfl) | (obtain ⟨_, _, _, _, _, _, rfl, _⟩ := h; rfl) | (obtain ⟨_, _, _, _, _, _, _, rfl, _⟩ := h; rfl) | (obtain ⟨_, _, _, _, _, _, _, _, rfl, _⟩ := h; rfl) | (obtain ⟨rfl, _⟩ := h; rfl)
  · obtain ⟨l, rfl, hl, hT, kS, kk⟩ := h
    refine ⟨_, (pss_cons (ps_if (pt_cmpR op_gt (pe_callB WP.c_len (by rfl) B.b_len (by decide +kernel) (WP.pa_consN (pv 0) pa_nil)) (WP.pe_const (by rfl) B.c_MOST_PROGRAM) (nomark _)) (pss_one (WP.ps_raiseE rfl (takes_of rfl rfl rfl rfl) B.xi_BadProgram c_BadProgram___init__ (hr.mono (by decide)) pass0 (by rfl) (WP.pa_consN pe_int (WP.pa_consN (WP.pe_strL [115, 105, 122, 101] (by decide +kernel)) pa_nil)))) pss_nil)
      (pss_cons (ps_set (i := 1) sc_tokens.nd rfl (Or.inl rfl) (pe_bm PySem.F.plainAttrs_str PySem.F.slot_str_split PySem.F.type_str_split mt_split (pv 0) (WP.pa_consN (WP.pe_strL [10] (by decide +kernel)) pa_nil)))
      (pss_cons (ps_for (passes_of rfl) rfl (WE1.pi_enum1 (by rfl) B.b_enumerate (WP.pa_consN (pv 1) pa_nil)) (pg_tup (by rfl) (pgs_cons (pg_name (i := 2) sc_tokens.nd rfl (Or.inl rfl)) (pgs_cons (pg_name (i := 3) sc_tokens.nd rfl (Or.inl rfl)) pgs_nil))) (pss_one (ps_if (pt_not (pt_val (WP.pe_callC c_is_printable hr rfl pass0 (WP.pa_consN (pv 3) pa_nil)))) (pss_one (WP.ps_raiseE rfl (takes_of rfl rfl rfl rfl) B.xi_BadProgram c_BadProgram___init__ (hr.mono (by decide)) pass0 (by rfl) (WP.pa_consN (pv 2) (WP.pa_consN (WP.pe_strL [99, 104, 97, 114, 97, 99, 116, 101, 114] (by decide +kernel)) pa_nil)))) pss_nil)))
      (pss_cons (ps_set (i := 4) sc_tokens.nd rfl (Or.inl rfl) (pe_lst pa_nil))
      (pss_cons (ps_for (passes_of rfl) rfl (WE1.pi_enum1 (by rfl) B.b_enumerate (WP.pa_consN (pv 1) pa_nil)) (pg_tup (by rfl) (pgs_cons (pg_name (i := 2) sc_tokens.nd rfl (Or.inl rfl)) (pgs_cons (pg_name (i := 3) sc_tokens.nd rfl (Or.inl rfl)) pgs_nil))) (pss_one (ps_expr (pe_bm PySem.F.plainAttrs_list PySem.F.slot_list_extend PySem.F.type_list_extend mt_extend (pv 4) (WP.pa_consN (WP.pe_callC c__tokens_of_line hr rfl (WP.passX rfl rfl rfl rfl) (WP.pa_consN (pv 2) (WP.pa_consN (pv 3) pa_nil))) pa_nil)))))
      (pss_one (ps_ret (pv 4)))))))), ?_⟩
    have hz : l.length ≤ sizeLine := by rw [sizeLine_eq]; omega
    k_updF
    refine WP.lenS' hz ?_
    k_updF
    refine WP.br (fun c => ?_) (fun c => ?_)
    · refine WP.mko ?_
      k_updF
      exact raise_BP fun d H' e hd => kS (by omega) d H' (WP.Sm.of e) hd
    obtain ⟨kC, kR⟩ := kk (by omega)
    clear kS kk
    k_updF
    refine ⟨_, _, rfl, rfl, by decide +kernel, by rw [SX.S_len, sizeLine_eq]; omega, fun p hp => ?_⟩
    rw [SX.split_S (by decide) (by decide)]
    have hcnt : (lns l).length ≤ l.length + 1 := MT.spl_count l.length l (Nat.le_refl _)
    have hfl : (lns l).flatten.length ≤ l.length := MT.spl_flat (c := 10) l.length l (Nat.le_refl _)
    have hin := fun (i : Nat) (x : List Nat) (h : (lns l)[i]? = some x) => in_flat h
    have hmm : ((TL.spl [10] 0 [] l).map SX.S).map V.str = (lns l).map fun x => V.str (SX.S x) := by rw [List.map_map]; rfl
    rw [hmm]
    generalize lns l = ls at *
    have e0 : Same H (upd H p (.lst (ls.map fun x => V.str (SX.S x)))) := WP.same_new hp
    have hls : SqL K (upd H p (.lst (ls.map fun x => V.str (SX.S x)))) p (ls.map fun x => V.str (SX.S x)) := SqL.of upd_same
    have hT0 := (WP.Sm.of e0).t _ hT
    generalize upd H p (.lst (ls.map fun x => V.str (SX.S x))) = H0 at e0 hls hT0 ⊢
    have gy : ∀ {i : Nat} {y : V}, (ls.map fun x => V.str (SX.S x))[i]? = some y → ∃ x, ls[i]? = some x ∧ V.str (SX.S x) = y := fun {i y} h => by
      rw [List.getElem?_map] at h
      cases e : ls[i]? with
      | none => rw [e] at h; cases h
      | some x => rw [e] at h; exact ⟨x, rfl, Option.some.inj h⟩
    k_updF
    refine ⟨p, _, rfl, hls, WE1.for_enum1 (fun i σ' H' => WP.Sm H0 H' ∧ (∃ z2 z3, σ' = [some (.str (SX.S l)), some (.ref p), z2, z3, none]) ∧ ∀ (j : Nat) (y : List Nat), j < i → ls[j]? = some y → MW.prn y = true) ⟨.refl _, ⟨none, none, rfl⟩, fun j y h => by omega⟩ (fun i σ G _ h => h.1.lst hls) ?_ ?_⟩
    · rintro i y σ' H1 N hiy hN ⟨e1, ⟨z2, z3, rfl⟩, hpr⟩
      obtain ⟨x, hx, rfl⟩ := gy hiy
      have e2 : Same H1 (upd H1 N (.tup [.int ((i + 1 : Nat) : Int), .str (SX.S x)])) := WP.same_new hN
      refine WP.unT (SqT.of upd_same) rfl ?_
      k_updF
      have hxl := hin i x hx
      refine ⟨x, rfl, by omega, (e1.trans (WP.Sm.of e2)).t _ hT0, fun H2 e3 => ?_⟩
      have em := (e1.trans (WP.Sm.of e2)).trans e3
      k_updF
      cases hb : MW.prn x with
      | false =>
        refine WP.brT rfl ?_
        refine WP.mko ?_
        k_updF
        exact raise_BP fun d H' e hd => kC i x hx hb hpr d H' (((WP.Sm.of e0).trans em).trans (WP.Sm.of e)) hd
      | true =>
        refine WP.brF rfl ?_
        k_updF
        refine ⟨em, ⟨_, _, rfl⟩, fun j y hj hy => ?_⟩
        rcases Nat.lt_or_ge j i with h | h
        · exact hpr j y h hy
        · obtain rfl : j = i := by omega
          rw [hx] at hy
          cases hy
          exact hb
    rintro σ' H1 ⟨e1, ⟨z2, z3, rfl⟩, hpr⟩
    rw [List.length_map] at hpr
    obtain ⟨os, ho1, ho2, ho3, ho4⟩ := kR fun x hx => by
      obtain ⟨j, hj, ej⟩ := List.getElem_of_mem hx
      exact hpr j x hj (by rw [← ej]; exact List.getElem?_eq_getElem hj)
    k_updF
    refine ⟨WP.sz (by decide), fun L hL => ?_⟩
    k_updF
    have hls1 := e1.lst hls
    have hls2 := WP.sql (WP.same_new (o := .lst []) hL) hls1
    refine ⟨p, _, rfl, hls2, WE1.for_enum1 (fun i σ' H' => Same H1 H' ∧ (∃ z2 z3, σ' = [some (.str (SX.S l)), some (.ref p), z2, z3, some (.ref L)]) ∧ ∃ (ts : List (List Tk)) (as : List Addr), ts.length = i ∧ os.take i = ts.map some ∧ H' L = some (.lst (as.map V.ref)) ∧ RtAt K H' as (rowsF 1 ts) ∧ as.length ≤ (ls.take i).flatten.length)
      ⟨WP.same_new hL, ⟨_, _, rfl⟩, [], [], rfl, rfl, upd_same, ⟨rfl, fun i a t h => by cases h⟩, Nat.zero_le _⟩ (fun i σ G _ h => WP.sql h.1 hls1) ?_ ?_⟩
    · rintro i y σ' H2 N hiy hN ⟨e2, ⟨z2, z3, rfl⟩, ts, as, hts, htk, hl2, hrt, has⟩
      obtain ⟨x, hx, rfl⟩ := gy hiy
      have hil : i < ls.length := (List.getElem?_eq_some_iff.mp hx).1
      have hio : os[i]? = some os[i] := List.getElem?_eq_getElem (by omega)
      generalize os[i] = o at hio
      have e3 : Same H2 (upd H2 N (.tup [.int ((i + 1 : Nat) : Int), .str (SX.S x)])) := WP.same_new hN
      refine WP.unT (SqT.of upd_same) rfl ?_
      generalize upd H2 N (.tup [.int ((i + 1 : Nat) : Int), .str (SX.S x)]) = H3 at e3 ⊢
      have hxl := hin i x hx
      have hl3 := e3 _ _ hl2
      have htake : ls.take (i + 1) = ls.take i ++ [x] := by rw [List.take_succ, hx]; rfl
      have hsum : (ls.take (i + 1)).flatten.length = (ls.take i).flatten.length + x.length := by
        rw [htake, List.flatten_append, List.length_append]
        show _ + (x ++ []).length = _
        rw [List.append_nil]
      have hle : (ls.take (i + 1)).flatten.length ≤ l.length := by
        have h := congrArg (fun q : List (List Nat) => q.flatten.length) (List.take_append_drop (i + 1) ls)
        have h : (ls.take (i + 1) ++ ls.drop (i + 1)).flatten.length = ls.flatten.length := h
        rw [List.flatten_append, List.length_append] at h
        omega
      k_updF
      refine WP.tyL (SqL.of hl3) ?_
      k_updF
      refine ⟨x, i + 1, o, rfl, by omega, ho2 i x o hx hio, fun on d H' e hd => ?_, fun us ou L2 bs H4 e4 hL2 nL2 hbl hbs => ?_⟩
      · subst on
        refine ho3 i hio (fun j hj hn => ?_) d H' (((WP.Sm.of e0).trans e1).trans (WP.Sm.of ((e2.trans e3).trans e))) hd
        have : (os.take i)[j]? = some none := by rw [List.getElem?_take_of_lt hj]; exact hn
        rw [htk, List.getElem?_map] at this
        cases et : ts[j]? with
        | none => rw [et] at this; cases this
        | some q => rw [et] at this; cases this
      · subst ou
        have hl4 := e4 _ _ hl3
        k_updF
        refine ⟨L, L2, _, _, rfl, rfl, hl4, hL2, by rw [List.length_map, List.length_map, sizeLine_eq]; omega, ?_⟩
        have app := RtAt.app (o := .lst (as.map V.ref ++ bs.map V.ref)) hrt (e3.trans e4) hl4 hbs
        k_updF
        refine ⟨WP.same_mut ((e2.trans e3).trans e4) hL, ⟨_, _, rfl⟩, ts ++ [us], as ++ bs, by rw [List.length_append, hts]; rfl, ?_, by rw [upd_same, List.map_append], ?_, by rw [List.length_append]; omega⟩
        · rw [List.take_succ, hio, htk, List.map_append]; rfl
        · rw [rowsF_app, hts, show 1 + i = i + 1 by omega]
          exact app
    rintro σ' H2 ⟨e2, ⟨y2, y3, rfl⟩, ts, as, hts, htk, hl2, hrt, has⟩
    rw [List.length_map] at hts htk
    k_updF
    refine ho4 ts ?_ L as H2 (((WP.Sm.of e0).trans e1).trans (WP.Sm.of e2)) hl2 hrt
    rw [← htk, List.take_of_length_le (by omega)]
  ))) only [D.box_eq]
end
abbrev s_Cursor___init__ : Stmt := inClass (top 27) 0
abbrev N_Cursor___init__ : List Str := ["self", "text"]
theorem sc_Cursor___init__ : FnScope N_Cursor___init__ ["self", "text"] (defScope s_Cursor___init__) := ⟨rfl, rfl, rfl, by decide +kernel, rfl, by decide +kernel, by decide +kernel⟩
theorem sp_tok_ok {K : PySem.W.Frag} {mg : WP.MG} {H : Hp} {P : List Pc} (t : TxO P 40000) (hT : GxR.TabG H (WP.tbl K "is_printable")) (hm : flts 1 P = []) (Q : VK) (E : XK)
    (hQ : ∀ (L : Addr) (as : List Addr) (H' : Hp), WP.Sm H H' → H' L = some (.lst (as.map V.ref)) → RtAt K H' as (exps 1 P) → Q (.ref L) H') : sp_tokens K mg [.str (SX.S (rend P))] H Q E := by
  have tl := t.len
  have hpl := prn_lines P t.ok 1
  refine ⟨rend P, rfl, by omega, hT, fun h => absurd tl (by omega), fun _ => ⟨fun i x hx hp hj => ?_, fun ha => ?_⟩⟩
  · rw [lns_lf] at hx
    have hf := (hpl i x hx).mp hp
    rw [hm] at hf; cases hf
  · obtain ⟨os, I⟩ := outs P t.ok t.adj 1 (by rw [hm]; exact fun f hf => nomatch hf)
    refine ⟨os, by rw [lns_lf]; exact I.l, fun i x o hx ho => by rw [lns_lf] at hx; exact I.g i x o hx ho [], fun i hi hj => ?_, fun ts hts L as H' sm hL hR => ?_⟩
    · obtain ⟨k', hk'⟩ := (I.n i).mp hi
      rw [hm] at hk'; cases hk'
    · rw [I.t ts hts] at hR
      exact hQ L as H' sm hL hR
def cuO (mg : WP.MG) (c : Cu) (n : Nat) : HO := .ins (WP.ca mg "Cursor") c.dx [("_tokens", .ref c.L), ("_at", .int (n : Int))]
/-- a cursor at a: its tokens, its place -/
structure CurA (K : PySem.W.Frag) (mg : WP.MG) (H : Hp) (a : Addr) (c : Cu) (n : Nat) : Prop where
  o : H a = some (cuO mg c n)
  l : H c.L = some (.lst (c.as.map V.ref))
  t : RtAt K H c.as c.rs
  n : n ≤ c.rs.length
  ok : ∀ t ∈ c.rs, t.2.2.length ≤ 1000 ∧ ∀ x ∈ t.2.2, x < 128
  z : c.rs.length ≤ 100000
theorem CurA.ll {K : PySem.W.Frag} {mg : WP.MG} {H : Hp} {a : Addr} {c : Cu} {n : Nat} (h : CurA K mg H a c n) : (c.as.map V.ref).length = c.rs.length := by rw [List.length_map, h.t.1]
theorem CurA.ne {K : PySem.W.Frag} {mg : WP.MG} {H : Hp} {a : Addr} {c : Cu} {n : Nat} (h : CurA K mg H a c n) : c.L ≠ a := fun z => by have := h.o; rw [← z, h.l] at this; cases this
/-- the cursor goes on: what else it may change -/
theorem CurA.sn {K : PySem.W.Frag} {mg : WP.MG} {H H' : Hp} {a : Addr} {c : Cu} {n m : Nat} (h : CurA K mg H a c n) (e : WP.Sn a H H') (o : H' a = some (cuO mg c m)) (hm : m ≤ c.rs.length) : CurA K mg H' a c m := by
  refine ⟨o, e.k _ _ h.ne h.l WP.nt_lst, ⟨h.t.1, fun i b t hb ht => ?_⟩, hm, h.ok, h.z⟩
  rcases h.t.2 i b t hb ht with (q | ⟨ob, q⟩) | q
  · exact .inl (.inl (e.k _ _ (fun z => by rw [z, h.o] at q; cases q) q WP.nt_tup))
  · exact .inl (.inr ⟨ob, e.k _ _ (fun z => by rw [z, h.o] at q; cases q) q WP.nt_frz⟩)
  · exact .inr q
theorem CurA.sqt {K : PySem.W.Frag} {mg : WP.MG} {H H' : Hp} {a b : Addr} {c : Cu} {n : Nat} {xs : List V} (h : CurA K mg H a c n) (e : WP.Sn a H H') (hq : SqT K H b xs) : SqT K H' b xs := by
  rcases hq with (q | ⟨ob, q⟩) | q
  · exact .inl (.inl (e.k _ _ (fun z => by rw [z, h.o] at q; cases q) q WP.nt_tup))
  · exact .inl (.inr ⟨ob, e.k _ _ (fun z => by rw [z, h.o] at q; cases q) q WP.nt_frz⟩)
  · exact .inr q
theorem CurA.sm {K : PySem.W.Frag} {mg : WP.MG} {H H' : Hp} {a : Addr} {c : Cu} {n : Nat} (h : CurA K mg H a c n) (e : WP.Sm H H') : CurA K mg H' a c n := h.sn (.of e) (e.k _ _ h.o (fun _ z => nomatch z)) h.n
theorem sn_at {mg : WP.MG} {H : Hp} {a : Addr} {c : Cu} {n m : Nat} (o : H a = some (cuO mg c n)) : WP.Sn a H (upd H a (cuO mg c m)) := ⟨fun b u hb h _ => by rw [upd_ne hb]; exact h, fun P ⟨ps, h, t⟩ => ⟨ps, by rw [upd_ne (fun z => by rw [z, o] at h; cases h)]; exact h, t⟩⟩
theorem CurA.go {K : PySem.W.Frag} {mg : WP.MG} {H : Hp} {a : Addr} {c : Cu} {n : Nat} (m : Nat) (h : CurA K mg H a c n) (hm : m ≤ c.rs.length) : CurA K mg (upd H a (cuO mg c m)) a c m := h.sn (sn_at h.o) upd_same hm
theorem CurA.tok {K : PySem.W.Frag} {mg : WP.MG} {H : Hp} {a : Addr} {c : Cu} {n : Nat} (h : CurA K mg H a c n) {i : Nat} {t : Nat × Tk} (ht : c.rs[i]? = some t) : ∃ b, (c.as.map V.ref)[i]? = some (.ref b) ∧ SqT K H b (t.2.vs (t.1 : Int)) := by
  have hi : i < c.as.length := by rw [h.t.1]; exact (List.getElem?_eq_some_iff.mp ht).1
  exact ⟨c.as[i], by rw [List.getElem?_map, List.getElem?_eq_getElem hi]; rfl, h.t.2 i _ t (List.getElem?_eq_getElem hi) ht⟩
/-- BadProgram is raised; the cursor stands at m -/
def BPc (mg : WP.MG) (H : Hp) (a : Addr) (c : Cu) (m : Nat) (E : XK) (x y : V) : Prop := ∀ (d : Addr) (H' : Hp), WP.Sn a H H' → H' a = some (cuO mg c m) → H' d = some (.xd (BPf x y)) → E (.ref (WP.ca mg "BadProgram")) (some d) H'
theorem CurA.wd {K : PySem.W.Frag} {mg : WP.MG} {H : Hp} {a : Addr} {c : Cu} {n : Nat} (h : CurA K mg H a c n) (b : Bool) : (nxt c.rs n b).length ≤ 1000 ∧ ∀ x ∈ nxt c.rs n b, x < 128 := by
  unfold nxt
  cases e : c.rs[n]? with
  | none => exact ⟨Nat.zero_le _, fun x hx => nomatch hx⟩
  | some t =>
    have := h.ok t (List.mem_of_getElem? e)
    obtain ⟨r, k, w⟩ := t
    show (if k = b then w else []).length ≤ 1000 ∧ ∀ x ∈ (if k = b then w else []), x < 128
    split
    · exact this
    · exact ⟨Nat.zero_le _, fun x hx => nomatch hx⟩
/-- what the cursor lets out where it stands -/
theorem CurA.bp {K : PySem.W.Frag} {mg : WP.MG} {H H1 : Hp} {a : Addr} {c : Cu} {n : Nat} {E : XK} {x y : V} (h : CurA K mg H a c n) (e : WP.Sm H H1) (k : BPc mg H a c n E x y) : BPr mg H1 E x y := fun d H2 e2 hd => k d H2 ((WP.Sn.of e).trans (.of (.of e2))) (e2 _ _ (e.k _ _ h.o (fun _ z => nomatch z))) hd
/-- BadProgram is raised, wherever the cursor stands -/
def BPz (mg : WP.MG) (H : Hp) (a : Addr) (c : Cu) (E : XK) (r : Nat) (w : List Nat) : Prop := ∀ (m : Nat) (d : Addr) (H' : Hp), WP.Sn a H H' → H' a = some (cuO mg c m) → H' d = some (.xd (BPf (.int (r : Int)) (.str (SX.S w)))) → E (.ref (WP.ca mg "BadProgram")) (some d) H'
theorem BPz.sn {mg : WP.MG} {H H1 : Hp} {a : Addr} {c : Cu} {E : XK} {r : Nat} {w : List Nat} (h : BPz mg H a c E r w) (e : WP.Sn a H H1) : BPz mg H1 a c E r w := fun m d H' s o hd => h m d H' (e.trans s) o hd
/-- a cursor that reads: with the table of the words' defs -/
structure CZ (K : PySem.W.Frag) (mg : WP.MG) (H : Hp) (a : Addr) (c : Cu) (n : Nat) : Prop where
  cu : CurA K mg H a c n
  tb : GxR.TabG H (WP.tbl K "_has_only")
theorem CZ.sn {K : PySem.W.Frag} {mg : WP.MG} {H H' : Hp} {a : Addr} {c : Cu} {n m : Nat} (h : CZ K mg H a c n) (e : WP.Sn a H H') (o : H' a = some (cuO mg c m)) (hm : m ≤ c.rs.length) : CZ K mg H' a c m := ⟨h.cu.sn e o hm, e.t _ h.tb⟩
theorem CZ.sm {K : PySem.W.Frag} {mg : WP.MG} {H H' : Hp} {a : Addr} {c : Cu} {n : Nat} (h : CZ K mg H a c n) (e : WP.Sm H H') : CZ K mg H' a c n := ⟨h.cu.sm e, e.t _ h.tb⟩
theorem CZ.kp {K : PySem.W.Frag} {mg : WP.MG} {H H' : Hp} {a : Addr} {c : Cu} {n : Nat} (h : CZ K mg H a c n) (e : WP.Sn a H H') : ∀ b us, SqT K H b us → SqT K H' b us := fun _ _ q => h.cu.sqt e q
/-- a reading def's promise -/
def PoQ {α : Type} (K : PySem.W.Frag) (mg : WP.MG) (H : Hp) (a : Addr) (c : Cu) (R : Hp → V → α → Prop) (Q : VK) (E : XK) : Po α → Prop
  | .ok x m => ∀ v H', WP.Sn a H H' → CZ K mg H' a c m → R H' v x → Q v H'
  | .bad r w => BPz mg H a c E r w
section
variable {α β : Type} {K : PySem.W.Frag} {mg : WP.MG} {H H1 : Hp} {a : Addr} {c : Cu} {R : Hp → V → α → Prop} {S : Hp → V → β → Prop} {Q Q1 : VK} {E : XK} {p : Po α} {f : α → Nat → Po β}
theorem PoQ.sn (k : PoQ K mg H a c R Q E p) (e : WP.Sn a H H1) : PoQ K mg H1 a c R Q E p := by
  cases p with
  | ok x m => exact fun v H' s z r => k v H' (e.trans s) z r
  | bad r w => exact BPz.sn k e
/-- one thing is read, the rest is asked behind it -/
theorem PoQ.step (k : PoQ K mg H a c S Q E (p.bd f)) (h : ∀ x m v H2, p = .ok x m → WP.Sn a H H2 → CZ K mg H2 a c m → R H2 v x → PoQ K mg H2 a c S Q E (f x m) → Q1 v H2) : PoQ K mg H a c R Q1 E p := by
  cases p with
  | ok x m => exact fun v H2 s z r => h x m v H2 rfl s z r (PoQ.sn (p := f x m) k s)
  | bad r w => exact k
end
def sp_Cursor___init__ (K : PySem.W.Frag) (mg : WP.MG) : Sp := fun vs H Q E => ∃ (a dx : Addr) (l : List Nat), vs = [.ref a, .str (SX.S l)] ∧ H a = some (.ins (WP.ca mg "Cursor") dx []) ∧
  ((∃ P, l = rend P ∧ TxO P 40000 ∧ flts 1 P = [] ∧ GxR.TabG H (WP.tbl K "is_printable") ∧ ∀ (c : Cu) (H' : Hp), WP.Sn a H H' → CurA K mg H' a c 0 → c.rs = exps 1 P → c.dx = dx → Q .non H') ∨ (∀ Q', sp_tokens K mg [.str (SX.S l)] H Q' E))
section
variable {P : Program} {w : World} {K : PySem.W.Frag} {mg : Str → Option Value} {base : Heap}
theorem ok_Cursor___init__ {f : Addr} {fd : FuncData} (F : Fun K "__init__" "Cursor.__init__" s_Cursor___init__ f fd) (B : Blt w K mg) (c_tokens : WP.Callee P w K mg base (L2.CX P w) 5 "tokens" ["text"] (sp_tokens K mg)) : FnOk P w K mg base (L2.CX P w) 6 f fd ["self", "text"] (sp_Cursor___init__ K mg) := by
  show D.Box _
  simp (discharger := (with_unfolding_all (
  refine F.okX sc_Cursor___init__ (fun vs H Q E h => ?_) (fun cdv A outer s H vs Q E hr h => ?_)
  · first | (obtain ⟨_, rfl, _⟩ := h; rfl) | (obtain ⟨_, _, rfl, _⟩ := h; rfl) | (obtain ⟨_, _, _, rfl, _⟩ := h; rfl) | (obtain ⟨_, _, _, _, rfl, _⟩ := h; rfl) | (obtain ⟨_, _, _, _, _, rfl, _⟩ := h; rfl) | (obtain ⟨_, _, _, _, _, _, rfl, _⟩ := h; rfl) | (obtain ⟨_, _, _, _, _, _, _, rfl, _⟩ := h; rfl) | (obtain ⟨_, _, _, _, _, _, _, _, rfl, _⟩ := h; rfl) | (obtain ⟨rfl, _⟩ := h; rfl)
  · obtain ⟨a, dx, l, rfl, ha, k⟩ := h
    refine ⟨_, (pss_cons (ps_fld (pv 0) (WP.pe_callC c_tokens hr rfl (WP.passX rfl rfl rfl rfl) (WP.pa_consN (pv 1) pa_nil)) rfl)
      (pss_one (ps_fld (pv 0) pe_int rfl))), ?_⟩
    k_updF
    rcases k with ⟨P, rfl, t, hf, hT, k⟩ | k
    · refine sp_tok_ok t hT hf _ _ (fun L as H1 e1 hL hR => ?_)
      have ha1 := e1.k _ _ ha (fun _ z => nomatch z)
      k_updF
      refine WP.sfldA B.k_Cursor ha1 (by decide) ?_
      k_updF
      refine WP.sfldA B.k_Cursor upd_same (by show 1 < 1000; decide) ?_
      rw [upd_upd]
      have nL : L ≠ a := fun z => by rw [z, ha1] at hL; cases hL
      have s2 : WP.Sn a H1 (upd H1 a (.ins (WP.ca mg "Cursor") dx [("_tokens", .ref L), ("_at", .int 0)])) := ⟨fun b u hb h _ => by rw [upd_ne hb]; exact h, fun P ⟨ps, h, t⟩ => ⟨ps, by rw [upd_ne (fun z => by rw [z, ha1] at h; cases h)]; exact h, t⟩⟩
      refine k ⟨dx, L, as, exps 1 P⟩ _ ((WP.Sn.of e1).trans s2) ⟨upd_same, ?_, ⟨hR.1, fun i b t hb ht => ?_⟩, Nat.zero_le _, exps_ok 1 P t.ok t.st, ?_⟩ rfl rfl
      · show upd H1 a _ L = _
        rw [upd_ne nL]; exact hL
      · rcases hR.2 i b t hb ht with (q | ⟨ob, q⟩) | q
        · exact .inl (.inl (s2.k _ _ (fun z => by rw [z, ha1] at q; cases q) q WP.nt_tup))
        · exact .inl (.inr ⟨ob, s2.k _ _ (fun z => by rw [z, ha1] at q; cases q) q WP.nt_frz⟩)
        · exact .inr q
      · have := (ex_len 1 P t.ok).1
        have := t.len
        show (exps 1 P).length ≤ _
        omega
    · exact k _
  ))) only [D.box_eq]
end
abbrev s__law_same : Stmt := top 37
abbrev N__law_same : List Str := ["actual", "expected", "k"]
theorem sc__law_same : FnScope N__law_same ["actual", "expected"] (defScope s__law_same) := ⟨rfl, rfl, rfl, by decide +kernel, rfl, by decide +kernel, by decide +kernel⟩
/-- two values that are the same, d tuples deep at most -/
inductive EqV (K : PySem.W.Frag) (H : Hp) : Nat → V → V → Prop where
  | int {d : Nat} (i : Int) : EqV K H d (.int i) (.int i)
  | non {d : Nat} : EqV K H d .non .non
  | bl {d : Nat} (b : Bool) : EqV K H d (.bl b) (.bl b)
  | str {d : Nat} (z : Str) (h : WP.SOk z) : EqV K H d (.str z) (.str z)
  | tup {d : Nat} {p q : Addr} {xs ys : List V} (hp : SqT K H p xs) (hq : SqT K H q ys) (hl : xs.length = ys.length) (hz : ys.length ≤ 1000)
      (h : ∀ (i : Nat) x y, xs[i]? = some x → ys[i]? = some y → EqV K H d x y) : EqV K H (d + 1) (.ref p) (.ref q)
theorem pw_nil {K : PySem.W.Frag} {H : Hp} {d : Nat} : ∀ (i : Nat) x y, ([] : List V)[i]? = some x → ([] : List V)[i]? = some y → EqV K H d x y := fun i x y h _ => by simp at h
theorem pw_cons {K : PySem.W.Frag} {H : Hp} {d : Nat} {x y : V} {xs ys : List V} (h : EqV K H d x y) (t : ∀ (i : Nat) x y, xs[i]? = some x → ys[i]? = some y → EqV K H d x y) : ∀ (i : Nat) x' y', (x :: xs)[i]? = some x' → (y :: ys)[i]? = some y' → EqV K H d x' y' := fun i x' y' h1 h2 => by
  cases i with
  | zero => cases h1; cases h2; exact h
  | succ i => exact t i x' y' (by simpa using h1) (by simpa using h2)
def sp__law_same (K : PySem.W.Frag) (mg : WP.MG) : Nat → Sp
  | 0 => fun _ _ _ _ => False
  | n + 1 => fun vs H Q _ => ∃ x y, vs = [x, y] ∧ EqV K H n x y ∧ Q (.bl true) H
section
variable {P : Program} {w : World} {K : PySem.W.Frag} {mg : Str → Option Value} {base : Heap}
theorem ok__law_same {f : Addr} {fd : FuncData} (F : Fun K "_law_same" "_law_same" s__law_same f fd) (B : Blt w K mg)  {nn : Nat} (c__law_same : WP.Callee P w K mg base CX0 (0 + nn) "_law_same" ["actual", "expected"] (sp__law_same K mg nn)) : FnOk P w K mg base CX0 (0 + nn + 1) f fd ["actual", "expected"] (sp__law_same K mg (nn + 1)) := by
  show D.Box _
  simp (discharger := (with_unfolding_all (
  refine F.ok sc__law_same (fun vs H Q E h => ?_) (fun cdv A outer s H vs Q E hr h => ?_)
  · first | (obtain ⟨_, rfl, _⟩ := h; rfl) | (obtain ⟨_, _, rfl, _⟩ := h; rfl) | (obtain ⟨_, _, _, rfl, _⟩ := h; rfl) | (obtain ⟨_, _, _, _, rfl, _⟩ := h; rfl) | (obtain ⟨_, _, _, _, _, rfl, _⟩ := h; rfl) | (obtain ⟨_, _, _, _, _, _, rfl, _⟩ := h; rfl) | (obtain ⟨_, _, _, _, _, _, _, rfl, _⟩ := h; rfl) | (obtain ⟨_, _, _, _, _, _, _, _, rfl, _⟩ := h; rfl) | (obtain ⟨rfl, _⟩ := h; rfl)
  · obtain ⟨x, y, rfl, he, k⟩ := h
    refine ⟨_, (pss_cons (ps_if (pt_val (pe_callB call_isi (by rfl) B.b_isinstance (by decide +kernel) (pa_cons (pv 1) (pa_cons (pe_bltn (v := .ty "tuple") rfl B.b_tuple (by decide +kernel) rfl) pa_nil)))) (pss_cons (ps_if (PW.pt (pw_or (pt_not (pt_val (pe_callB call_isi (by rfl) B.b_isinstance (by decide +kernel) (pa_cons (pv 0) (pa_cons (pe_bltn (v := .ty "tuple") rfl B.b_tuple (by decide +kernel) rfl) pa_nil))))) (pw_or1 (pt_cmpR op_ne (pe_callB WP.c_len (by rfl) B.b_len (by decide +kernel) (WP.pa_consN (pv 0) pa_nil)) (pe_callB WP.c_len (by rfl) B.b_len (by decide +kernel) (WP.pa_consN (pv 1) pa_nil)) (nomark _))))) (pss_one (ps_ret pe_bl)) pss_nil)
      (pss_cons (ps_for PassesOwn.never rfl (pi_range1 rfl B.b_range (WP.pa_consN (pe_callB WP.c_len (by rfl) B.b_len (by decide +kernel) (WP.pa_consN (pv 1) pa_nil)) pa_nil)) (pg_name (i := 2) sc__law_same.nd rfl (Or.inl rfl)) (pss_one (ps_if (pt_not (pt_val (WP.pe_callC (hl := by omega) c__law_same hr rfl pass0 (WP.pa_consN (pe_ix ix_tup (pv 0) (pv 2) (fun _ _ => rfl)) (WP.pa_consN (pe_ix ix_tup (pv 1) (pv 2) (fun _ _ => rfl)) pa_nil))))) (pss_one (ps_ret pe_bl)) pss_nil)))
      (pss_one (ps_ret pe_bl)))) pss_nil)
      (pss_cons (ps_if (pt_val (pe_callB call_isi (by rfl) B.b_isinstance (by decide +kernel) (pa_cons (pv 1) (pa_cons (pe_bltn (v := .ty "str") rfl B.b_str (by decide +kernel) rfl) pa_nil)))) (pss_one (ps_ret (pe_and (pe_callB call_isi (by rfl) B.b_isinstance (by decide +kernel) (pa_cons (pv 0) (pa_cons (pe_bltn (v := .ty "str") rfl B.b_str (by decide +kernel) rfl) pa_nil))) (pe_one (pe_cmpR (op_eqD hr.units) (pv 0) (pv 1) (nomark _)))))) pss_nil)
      (pss_cons (ps_if (pt_cmpR op_isN (pv 1) pe_non (nomark _)) (pss_one (ps_ret (pe_cmpR op_isN (pv 0) pe_non (nomark _)))) pss_nil)
      (pss_cons (ps_if (PW.pt (pw_or (pt_val (pe_callB call_isi (by rfl) B.b_isinstance (by decide +kernel) (pa_cons (pv 1) (pa_cons (pe_bltn (v := .ty "bool") rfl B.b_bool (by decide +kernel) rfl) pa_nil)))) (pw_or1 (pt_val (pe_callB call_isi (by rfl) B.b_isinstance (by decide +kernel) (pa_cons (pv 0) (pa_cons (pe_bltn (v := .ty "bool") rfl B.b_bool (by decide +kernel) rfl) pa_nil))))))) (pss_one (ps_ret (pe_and (pe_callB call_isi (by rfl) B.b_isinstance (by decide +kernel) (pa_cons (pv 1) (pa_cons (pe_bltn (v := .ty "bool") rfl B.b_bool (by decide +kernel) rfl) pa_nil))) (pe_and (pe_callB call_isi (by rfl) B.b_isinstance (by decide +kernel) (pa_cons (pv 0) (pa_cons (pe_bltn (v := .ty "bool") rfl B.b_bool (by decide +kernel) rfl) pa_nil))) (pe_one (pe_cmpR (op_eqD hr.units) (pv 0) (pv 1) (nomark _))))))) pss_nil)
      (pss_one (ps_ret (pe_and (pe_callB call_isi (by rfl) B.b_isinstance (by decide +kernel) (pa_cons (pv 0) (pa_cons (pe_bltn (v := .ty "int") rfl B.b_int (by decide +kernel) rfl) pa_nil))) (pe_one (pe_cmpR (op_eqD hr.units) (pv 0) (pv 1) (nomark _)))))))))), ?_⟩
    cases he with
    | int i =>
      k_updF
      refine WP.isN (.base (.int _)) ?_
      k_updF
      refine WP.brF rfl ?_
      k_updF
      refine WP.isN (.base (.int _)) ?_
      k_updF
      refine WP.brF rfl ?_
      k_updF
      refine ⟨rfl, ?_⟩
      k_updF
      refine WP.brF (decide_eq_false fun z => nomatch z) ?_
      k_updF
      refine WP.isN (.base (.int _)) ?_
      k_updF
      refine WP.brF rfl ?_
      k_updF
      refine WP.isN (.base (.int _)) ?_
      k_updF
      refine WP.brF rfl ?_
      k_updF
      refine WP.isY (.base (.int _)) ?_
      k_updF
      refine WP.brT rfl ?_
      k_updF
      refine WP.eqD (.int _) (.int _) ?_
      rw [SeqAt.eqv_refl _ (by rfl)]
      exact k
    | non =>
      k_updF
      refine WP.isN (.base .non) ?_
      k_updF
      refine WP.brF rfl ?_
      k_updF
      refine WP.isN (.base .non) ?_
      k_updF
      refine WP.brF rfl ?_
      k_updF
      refine ⟨rfl, ?_⟩
      k_updF
      refine WP.brT rfl ?_
      k_updF
      refine ⟨rfl, ?_⟩
      k_updF
      exact k
    | bl b =>
      k_updF
      refine WP.isN (.base (.bl _)) ?_
      k_updF
      refine WP.brF rfl ?_
      k_updF
      refine WP.isN (.base (.bl _)) ?_
      k_updF
      refine WP.brF rfl ?_
      k_updF
      refine ⟨rfl, ?_⟩
      k_updF
      refine WP.brF (decide_eq_false fun z => nomatch z) ?_
      k_updF
      refine WP.isY (.base (.bl _)) ?_
      k_updF
      refine WP.brT rfl ?_
      k_updF
      refine WP.brT rfl ?_
      k_updF
      refine WP.isY (.base (.bl _)) ?_
      k_updF
      refine WP.brT rfl ?_
      k_updF
      refine WP.isY (.base (.bl _)) ?_
      k_updF
      refine WP.brT rfl ?_
      k_updF
      refine WP.eqD (.bl _) (.bl _) ?_
      rw [SeqAt.eqv_refl _ (by rfl)]
      exact k
    | str z hz =>
      k_updF
      refine WP.isN (.base (.str _)) ?_
      k_updF
      refine WP.brF rfl ?_
      k_updF
      refine WP.isY (.base (.str _)) ?_
      k_updF
      refine WP.brT rfl ?_
      k_updF
      refine WP.isY (.base (.str _)) ?_
      k_updF
      refine WP.brT rfl ?_
      k_updF
      refine WP.eqD (.str _) (.str _) ?_ hz.sh hz.sh
      rw [SeqAt.eqv_refl _ hz]
      exact k
    | @tup d p q xs ys hp hq hl hz he =>
      k_updF
      refine WP.isY (WP.tyT hq) ?_
      k_updF
      refine WP.brT rfl ?_
      k_updF
      refine WP.isY (WP.tyT hp) ?_
      k_updF
      refine WP.brF rfl ?_
      k_updF
      refine WP.lenT hp ?_
      k_updF
      refine WP.lenT hq ?_
      k_updF
      refine WP.brF (by rw [hl]; simp) ?_
      k_updF
      refine WP.lenT hq ?_
      k_updF
      refine ⟨_, rfl, by omega, by omega, for_range (lo := 0) (n := _) (fun i σ' H' => H' = H ∧ ∃ z, σ' = [some (.ref p), some (.ref q), z]) ⟨rfl, none, rfl⟩ ?_ ?_⟩
      · rintro i σ' H' hi ⟨rfl, z, rfl⟩
        rw [Int.toNat_natCast] at hi
        rw [Int.zero_add]
        have ex := List.getElem?_eq_getElem (l := xs) (i := i) (by omega)
        have ey := List.getElem?_eq_getElem (l := ys) (i := i) (by omega)
        k_updF
        refine WP.ixT hp (atI_nat ex) ?_
        k_updF
        refine WP.ixT hq (atI_nat ey) ?_
        k_updF
        refine ⟨_, _, rfl, he i _ _ ex ey, ?_⟩
        k_updF
        refine WP.brF rfl ?_
        k_updF
        exact ⟨rfl, _, rfl⟩
      · rintro σ' H' ⟨rfl, z, rfl⟩
        k_updF
        exact k
  ))) only [D.box_eq]
end
abbrev s__law_is_name : Stmt := top 42
abbrev N__law_is_name : List Str := ["word", "mark"]
theorem sc__law_is_name : FnScope N__law_is_name ["word"] (defScope s__law_is_name) := ⟨rfl, rfl, rfl, by decide +kernel, rfl, by decide +kernel, by decide +kernel⟩
def sp__law_is_name (K : PySem.W.Frag) (mg : WP.MG) : Sp := fun vs H Q _ => ∃ l : List Nat, vs = [.str (SX.S l)] ∧ l.length ≤ 1000 ∧ WP.RetV (.bl (MW.nameB l)) H Q
section
variable {P : Program} {w : World} {K : PySem.W.Frag} {mg : Str → Option Value} {base : Heap}
theorem ok__law_is_name {f : Addr} {fd : FuncData} (F : Fun K "_law_is_name" "_law_is_name" s__law_is_name f fd) (B : Blt w K mg) (c__law_reserved : WP.Callee P w K mg base CX0 1 "_law_reserved" [] (sp__law_reserved K mg)) : FnOk P w K mg base CX0 2 f fd ["word"] (sp__law_is_name K mg) := by
  show D.Box _
  simp (discharger := (with_unfolding_all (
  refine F.ok sc__law_is_name (fun vs H Q E h => ?_) (fun cdv A outer s H vs Q E hr h => ?_)
  · first | (obtain ⟨_, rfl, _⟩ := h; rfl) | (obtain ⟨_, _, rfl, _⟩ := h; rfl) | (obtain ⟨_, _, _, rfl, _⟩ := h; rfl) | (obtain ⟨_, _, _, _, rfl, _⟩ := h; rfl) | (obtain ⟨_, _, _, _, _, rfl, _⟩ := h; rfl) | (obtain ⟨_, _, _, _, _, _, rfl, _⟩ := h; rfl) | (obtain ⟨_, _, _, _, _, _, _, rfl, _⟩ := h; rfl) | (obtain ⟨_, _, _, _, _, _, _, _, rfl, _⟩ := h; rfl) | (obtain ⟨rfl, _⟩ := h; rfl)
  · obtain ⟨l, rfl, hl, k⟩ := h
    refine ⟨_, (pss_cons (ps_if (PW.pt (pw_or (pt_cmpR op_eq (pv 0) (WP.pe_strL [] (by decide +kernel)) (nomark _)) (pw_or (pt_cmpR op_gt (pe_callB WP.c_len (by rfl) B.b_len (by decide +kernel) (WP.pa_consN (pv 0) pa_nil)) pe_int (nomark _)) (pw_or1 (pt_cmpR op_in_seq (pv 0) (WP.pe_callC0 c__law_reserved hr rfl pass0) rfl))))) (pss_one (ps_ret pe_bl)) pss_nil)
      (pss_cons (ps_if (PW.pt (pw_or (pt_cmpR WP.op_notInSign (pe_ix ix_str (pv 0) pe_int (fun _ _ => rfl)) (WP.pe_strL [97, 98, 99, 100, 101, 102, 103, 104, 105, 106, 107, 108, 109, 110, 111, 112, 113, 114, 115, 116, 117, 118, 119, 120, 121, 122] (by decide +kernel)) rfl) (pw_or1 (pt_cmpR op_eq (pe_ix ix_str (pv 0) (pe_un un_neg pe_int) (fun _ _ => rfl)) (WP.pe_strL [45] (by decide +kernel)) (nomark _))))) (pss_one (ps_ret pe_bl)) pss_nil)
      (pss_cons (ps_for PassesOwn.never rfl (pi_str (pv 0)) (pg_name (i := 1) sc__law_is_name.nd rfl (Or.inl rfl)) (pss_one (ps_if (pt_cmpR WP.op_notInSign (pv 1) (WP.pe_strL [97, 98, 99, 100, 101, 102, 103, 104, 105, 106, 107, 108, 109, 110, 111, 112, 113, 114, 115, 116, 117, 118, 119, 120, 121, 122, 48, 49, 50, 51, 52, 53, 54, 55, 56, 57, 45] (by decide +kernel)) rfl) (pss_one (ps_ret pe_bl)) pss_nil)))
      (pss_one (ps_ret pe_bl))))), ?_⟩
    k_updF
    have hz : l.length ≤ sizeLine := by rw [sizeLine_eq]; omega
    have hout : ¬ (1 ≤ l.length ∧ l.length ≤ 20) → Q (.bl false) H := fun c => by
      have e : MW.nameB l = false := by unfold MW.nameB; rw [decide_eq_false c]; rfl
      rw [e] at k
      exact k _ (.refl _)
    refine WP.br (fun c1 => ?_) (fun c1 => ?_)
    · refine WP.brT rfl ?_
      k_updF
      exact hout (fun z => by rw [c1] at z; exact absurd z.1 (by decide))
    have c1 : 1 ≤ l.length := Nat.one_le_iff_ne_zero.mpr fun e => c1 (List.length_eq_zero_iff.mp e)
    k_updF
    refine WP.lenS' hz ?_
    k_updF
    refine WP.br (fun c2 => ?_) (fun c2 => ?_)
    · refine WP.brT rfl ?_
      k_updF
      exact hout (fun z => by omega)
    k_updF
    refine ⟨rfl, fun p H1 hp e1 hL => ?_⟩
    refine WP.inL MW.RES (SqL.of hL) rfl ?_
    k_updF
    obtain ⟨a0, a1⟩ := MW.ends (l := l) (by omega)
    have e : MW.nameB l = (!decide (l ∈ MW.RES) && (decide (l.headD 0 ∈ MW.LET) && (!decide ((l.getLast?).getD 0 = 45) && MW.allIn l (MW.LET ++ MW.FIG ++ [45])))) := by unfold MW.nameB; rw [decide_eq_true ⟨by omega, by omega⟩]; rfl
    rw [e] at k
    generalize l.headD 0 = c0 at a0 k
    generalize (l.getLast?).getD 0 = cl at a1 k
    refine WP.br (fun d => ?_) (fun d => ?_)
    · k_updF
      rw [show decide (l ∈ MW.RES) = true from decide_eq_true d, Bool.not_true, Bool.false_and] at k
      exact k _ e1
    rw [show decide (l ∈ MW.RES) = false from decide_eq_false d, Bool.not_false, Bool.true_and] at k
    k_updF
    refine WP.ixS1 a0 hz ?_
    k_updF
    refine WP.notInSign (l := MW.LET) ?_
    k_updF
    refine WP.brN (fun d => ?_) (fun d => ?_)
    · rw [show decide (c0 ∈ MW.LET) = false from decide_eq_false d, Bool.false_and] at k
      refine WP.brT rfl ?_
      k_updF
      exact k _ e1
    rw [show decide (c0 ∈ MW.LET) = true from decide_eq_true d, Bool.true_and] at k
    k_updF
    refine WP.ixS1 a1 hz ?_
    k_updF
    rw [show decide ([cl] = [45]) = decide (cl = 45) by congr 1; exact propext ⟨fun z => by simpa using z, fun z => by rw [z]⟩]
    refine WP.br (fun d => ?_) (fun d => ?_)
    · k_updF
      rw [show decide (cl = 45) = true from decide_eq_true d, Bool.not_true, Bool.false_and] at k
      exact k _ e1
    rw [show decide (cl = 45) = false from decide_eq_false d, Bool.not_false, Bool.true_and] at k
    k_updF
    refine ⟨_, rfl, WP.for_txt (fun i σ' H' => H' = H1 ∧ ∃ z, σ' = [some (.str (SX.S l)), z] ∧ MW.allIn l (MW.LET ++ MW.FIG ++ [45]) = MW.allIn (l.drop i) (MW.LET ++ MW.FIG ++ [45])) ⟨rfl, none, rfl, rfl⟩ ?_ ?_⟩
    · rintro i c σ' H' hc ⟨rfl, z, rfl, e⟩
      have ed : l.drop i = c :: l.drop (i + 1) := by
        obtain ⟨hi, e⟩ := List.getElem?_eq_some_iff.mp hc
        rw [List.drop_eq_getElem_cons hi, e]
      rw [ed] at e
      have e2 : MW.allIn (c :: l.drop (i + 1)) (MW.LET ++ MW.FIG ++ [45]) = (decide (c ∈ (MW.LET ++ MW.FIG ++ [45])) && MW.allIn (l.drop (i + 1)) (MW.LET ++ MW.FIG ++ [45])) := rfl
      rw [e2] at e
      k_updF
      refine WP.notInSign (l := MW.LET ++ MW.FIG ++ [45]) ?_
      k_updF
      refine WP.brN (fun d => ?_) (fun d => ?_)
      · k_updF
        rw [e, decide_eq_false d, Bool.false_and] at k
        exact k _ e1
      · k_updF
        exact ⟨rfl, _, rfl, by rw [e, decide_eq_true d]; rfl⟩
    · rintro σ' H' ⟨rfl, z, rfl, e⟩
      k_updF
      rw [e, List.drop_length] at k
      exact k _ e1
  ))) only [D.box_eq]
end
abbrev s__law_are_figures : Stmt := top 43
abbrev N__law_are_figures : List Str := ["word", "mark"]
theorem sc__law_are_figures : FnScope N__law_are_figures ["word"] (defScope s__law_are_figures) := ⟨rfl, rfl, rfl, by decide +kernel, rfl, by decide +kernel, by decide +kernel⟩
def sp__law_are_figures (K : PySem.W.Frag) (mg : WP.MG) : Sp := fun vs H Q _ => ∃ l : List Nat, vs = [.str (SX.S l)] ∧ Q (.bl (MW.figs l)) H
section
variable {P : Program} {w : World} {K : PySem.W.Frag} {mg : Str → Option Value} {base : Heap}
theorem ok__law_are_figures {f : Addr} {fd : FuncData} (F : Fun K "_law_are_figures" "_law_are_figures" s__law_are_figures f fd) (B : Blt w K mg)  : FnOk P w K mg base CX0 1 f fd ["word"] (sp__law_are_figures K mg) := by
  show D.Box _
  simp (discharger := (with_unfolding_all (
  refine F.ok sc__law_are_figures (fun vs H Q E h => ?_) (fun cdv A outer s H vs Q E hr h => ?_)
  · first | (obtain ⟨_, rfl, _⟩ := h; rfl) | (obtain ⟨_, _, rfl, _⟩ := h; rfl) | (obtain ⟨_, _, _, rfl, _⟩ := h; rfl) | (obtain ⟨_, _, _, _, rfl, _⟩ := h; rfl) | (obtain ⟨_, _, _, _, _, rfl, _⟩ := h; rfl) | (obtain ⟨_, _, _, _, _, _, rfl, _⟩ := h; rfl) | (obtain ⟨_, _, _, _, _, _, _, rfl, _⟩ := h; rfl) | (obtain ⟨_, _, _, _, _, _, _, _, rfl, _⟩ := h; rfl) | (obtain ⟨rfl, _⟩ := h; rfl)
  · obtain ⟨l, rfl, k⟩ := h
    refine ⟨_, (pss_cons (ps_for PassesOwn.never rfl (pi_str (pv 0)) (pg_name (i := 1) sc__law_are_figures.nd rfl (Or.inl rfl)) (pss_one (ps_if (pt_cmpR WP.op_notInSign (pv 1) (WP.pe_strL [48, 49, 50, 51, 52, 53, 54, 55, 56, 57] (by decide +kernel)) rfl) (pss_one (ps_ret pe_bl)) pss_nil)))
      (pss_one (ps_ret (pe_cmpR op_ne (pv 0) (WP.pe_strL [] (by decide +kernel)) (nomark _))))), ?_⟩
    k_updF
    have e0 : MW.figs l = (!decide (l = []) && MW.allIn l MW.FIG) := rfl
    refine ⟨_, rfl, WP.for_txt (fun i σ' H' => H' = H ∧ ∃ z, σ' = [some (.str (SX.S l)), z] ∧ MW.allIn l MW.FIG = MW.allIn (l.drop i) MW.FIG) ⟨rfl, none, rfl, rfl⟩ ?_ ?_⟩
    · rintro i c σ' H' hc ⟨rfl, z, rfl, e⟩
      have ed : l.drop i = c :: l.drop (i + 1) := by
        obtain ⟨hi, e⟩ := List.getElem?_eq_some_iff.mp hc
        rw [List.drop_eq_getElem_cons hi, e]
      rw [ed] at e
      have e2 : MW.allIn (c :: l.drop (i + 1)) MW.FIG = (decide (c ∈ MW.FIG) && MW.allIn (l.drop (i + 1)) MW.FIG) := rfl
      rw [e2] at e
      k_updF
      refine WP.notInSign (l := MW.FIG) ?_
      k_updF
      refine WP.brN (fun d => ?_) (fun d => ?_)
      · k_updF
        rw [e0, e, decide_eq_false d, Bool.false_and, Bool.and_false] at k
        exact k
      · k_updF
        exact ⟨rfl, _, rfl, by rw [e, decide_eq_true d]; rfl⟩
    · rintro σ' H' ⟨rfl, z, rfl, e⟩
      k_updF
      rw [e0, e, List.drop_length, show MW.allIn [] MW.FIG = true from rfl, Bool.and_true] at k
      exact k
  ))) only [D.box_eq]
end
abbrev s__law_deed : Stmt := top 48
abbrev N__law_deed : List Str := ["draws", "rows", "at", "peek", "suited", "deed", "words", "k", "word"]
theorem sc__law_deed : FnScope N__law_deed ["draws", "rows", "at"] (defScope s__law_deed) := ⟨rfl, rfl, rfl, by decide +kernel, rfl, by decide +kernel, by decide +kernel⟩
def sp__law_deed (K : PySem.W.Frag) (mg : WP.MG) : Sp := fun vs H Q _ => ∃ (d : Addr) (ns : DZ) (L : Addr) (rs : List (Nat × Tk)) (n : Nat), vs = [.ref d, .ref L, .int (n : Int)] ∧ DS K H d ns ∧ RtL K H L rs ∧ L ≠ d ∧ RsOk rs ∧ n ≤ rs.length ∧
  ∀ (t W : Addr) (D : Nat) (ws : List (List Nat)) (bound : Int) (H' : Hp), WP.Sx d H H' → DS K H' d ns → D ≤ 10 → ws.length = 3 → (∀ w ∈ ws, w ≠ []) → H' W = some (.lst (ws.map fun w => .str (SX.S w))) → W ≠ d → SqT K H' t [.int (D : Int), .ref W, .int bound] → Q (.ref t) H'
section
variable {P : Program} {w : World} {K : PySem.W.Frag} {mg : Str → Option Value} {base : Heap}
theorem ok__law_deed {f : Addr} {fd : FuncData} (F : Fun K "_law_deed" "_law_deed" s__law_deed f fd) (B : Blt w K mg) (c__law_draw : WP.Callee P w K mg base CX0 1 "_law_draw" ["draws", "limit"] (sp__law_draw K mg)) (c__law_is_name : WP.Callee P w K mg base CX0 2 "_law_is_name" ["word"] (sp__law_is_name K mg)) (c__law_name : WP.Callee P w K mg base CX0 2 "_law_name" ["draws"] (sp__law_name K mg)) (c__law_are_figures : WP.Callee P w K mg base CX0 1 "_law_are_figures" ["word"] (sp__law_are_figures K mg)) : FnOk P w K mg base CX0 3 f fd ["draws", "rows", "at"] (sp__law_deed K mg) := by
  show D.Box _
  simp (discharger := (with_unfolding_all (
  refine F.ok sc__law_deed (fun vs H Q E h => ?_) (fun cdv A outer s H vs Q E hr h => ?_)
  · first | (obtain ⟨_, rfl, _⟩ := h; rfl) | (obtain ⟨_, _, rfl, _⟩ := h; rfl) | (obtain ⟨_, _, _, rfl, _⟩ := h; rfl) | (obtain ⟨_, _, _, _, rfl, _⟩ := h; rfl) | (obtain ⟨_, _, _, _, _, rfl, _⟩ := h; rfl) | (obtain ⟨_, _, _, _, _, _, rfl, _⟩ := h; rfl) | (obtain ⟨_, _, _, _, _, _, _, rfl, _⟩ := h; rfl) | (obtain ⟨_, _, _, _, _, _, _, _, rfl, _⟩ := h; rfl) | (obtain ⟨rfl, _⟩ := h; rfl)
  · obtain ⟨d, ns, L, rs, n, rfl, hd, ht, nL, ok, hn, k⟩ := h
    refine ⟨_, (pss_cons (ps_set (i := 3) sc__law_deed.nd rfl (Or.inl rfl) (WP.pe_strL [120] (by decide +kernel)))
      (pss_cons (ps_set (i := 4) sc__law_deed.nd rfl (Or.inl rfl) pe_int)
      (Evl.pss_cut (ps_if (PW.pt (pw_and (pt_cmpR op_lt (pv 2) (pe_callB WP.c_len (by rfl) B.b_len (by decide +kernel) (WP.pa_consN (pv 1) pa_nil)) (nomark _)) (pw_and1 (pt_cmpR op_eq (pe_ix ix_tup (pe_ix ix_list (pv 1) (pv 2) (fun _ _ => rfl)) pe_int (fun _ _ => rfl)) (WP.pe_strL [119, 111, 114, 100] (by decide +kernel)) (nomark _))))) (pss_cons (ps_set (i := 3) sc__law_deed.nd rfl (Or.inl rfl) (pe_ix ix_tup (pe_ix ix_list (pv 1) (pv 2) (fun _ _ => rfl)) pe_int (fun _ _ => rfl)))
      (pss_cons (ps_set (i := 4) sc__law_deed.nd rfl (Or.inl rfl) (pe_ix ix_list (pe_lst (WP.pa_consN pe_int (WP.pa_consN pe_int (WP.pa_consN pe_int (WP.pa_consN pe_int (WP.pa_consN pe_int (WP.pa_consN pe_int pa_nil))))))) (WP.pe_callC c__law_draw hr rfl pass0 (WP.pa_consN (pv 0) (WP.pa_consN pe_int pa_nil))) (fun _ _ => rfl)))
      (pss_one (ps_if (pt_val (WP.pe_callC c__law_is_name hr rfl pass0 (WP.pa_consN (pv 3) pa_nil))) (pss_one (ps_set (i := 4) sc__law_deed.nd rfl (Or.inl rfl) pe_int)) (pss_one (ps_if (pt_val (WP.pe_callC c__law_are_figures hr rfl pass0 (WP.pa_consN (pv 3) pa_nil))) (pss_one (ps_set (i := 4) sc__law_deed.nd rfl (Or.inl rfl) (pe_op op_add pe_int (WP.pe_callC c__law_draw hr rfl pass0 (WP.pa_consN (pv 0) (WP.pa_consN pe_int pa_nil)))))) pss_nil)))))) pss_nil)
      (pss_cons (ps_set (i := 5) sc__law_deed.nd rfl (Or.inl rfl) (WP.pe_callC c__law_draw hr rfl pass0 (WP.pa_consN (pv 0) (WP.pa_consN pe_int pa_nil))))
      (Evl.pss_cut (ps_if (pt_cmpR op_lt (WP.pe_callC c__law_draw hr rfl pass0 (WP.pa_consN (pv 0) (WP.pa_consN pe_int pa_nil))) pe_int (nomark _)) (pss_one (ps_set (i := 5) sc__law_deed.nd rfl (Or.inl rfl) (pv 4))) pss_nil)
      (pss_cons (ps_set (i := 6) sc__law_deed.nd rfl (Or.inl rfl) (pe_lst pa_nil))
      (pss_cons (ps_for PassesOwn.never rfl (pi_range1 rfl B.b_range (WP.pa_consN pe_int pa_nil)) (pg_name (i := 7) sc__law_deed.nd rfl (Or.inl rfl)) (pss_cons (ps_set (i := 8) sc__law_deed.nd rfl (Or.inl rfl) (WP.pe_callC c__law_name hr rfl pass0 (WP.pa_consN (pv 0) pa_nil)))
      (Evl.pss_cut (ps_if (PW.pt (pw_and (pt_cmpR op_lt (pe_op op_add (pv 2) (pv 7)) (pe_callB WP.c_len (by rfl) B.b_len (by decide +kernel) (WP.pa_consN (pv 1) pa_nil)) (nomark _)) (pw_and (pt_cmpR op_eq (pe_ix ix_tup (pe_ix ix_list (pv 1) (pe_op op_add (pv 2) (pv 7)) (fun _ _ => rfl)) pe_int (fun _ _ => rfl)) (WP.pe_strL [119, 111, 114, 100] (by decide +kernel)) (nomark _)) (pw_and1 (pt_cmpR op_gt (WP.pe_callC c__law_draw hr rfl pass0 (WP.pa_consN (pv 0) (WP.pa_consN pe_int pa_nil))) pe_int (nomark _)))))) (pss_one (ps_set (i := 8) sc__law_deed.nd rfl (Or.inl rfl) (pe_ix ix_tup (pe_ix ix_list (pv 1) (pe_op op_add (pv 2) (pv 7)) (fun _ _ => rfl)) pe_int (fun _ _ => rfl)))) pss_nil)
      (pss_one (ps_expr (pe_bm PySem.F.plainAttrs_list PySem.F.slot_list_append PySem.F.type_list_append mt_append (pv 6) (WP.pa_consN (pv 8) pa_nil)))))))
      (pss_one (ps_ret (pe_tup (WP.pa_consN (pv 5) (WP.pa_consN (pv 6) (WP.pa_consN (pe_ix ix_list (pe_lst (WP.pa_consN pe_int (WP.pa_consN pe_int (WP.pa_consN (pe_op op_pow pe_int pe_int) (WP.pa_consN (pe_op op_sub (pe_op op_pow pe_int pe_int) pe_int) (WP.pa_consN (pe_op op_pow pe_int pe_int) pa_nil)))))) (WP.pe_callC c__law_draw hr rfl pass0 (WP.pa_consN (pv 0) (WP.pa_consN pe_int pa_nil))) (fun _ _ => rfl)) pa_nil))))))))))))), ?_⟩
    k_updF
    obtain ⟨xs, hL, hlen⟩ := ht.len
    refine WP.cut (fun σ' H' => WP.Sx d H H' ∧ DS K H' d ns ∧ ∃ (w : List Nat) (s : Nat), s ≤ 10 ∧ σ' = [some (.ref d), some (.ref L), some (.int n), some (.str (SX.S w)), some (.int (s : Int)), none, none, none, none]) ?_ ?_
    · k_updF
      refine WP.lenL hL ?_
      rw [hlen]
      k_updF
      by_cases cE : n < rs.length
      rotate_left
      · refine WP.brF (decide_eq_false (by omega)) ?_
        refine WP.brF rfl ?_
        k_updF
        exact ⟨.refl, hd, [120], 10, by decide, rfl⟩
      refine WP.brT (decide_eq_true (by omega)) ?_
      obtain ⟨⟨r, b, q⟩, htk⟩ : ∃ t, rs[n]? = some t := ⟨_, List.getElem?_eq_getElem cE⟩
      obtain ⟨ys, a, hL2, hb, hq⟩ := ht.tok htk
      have hq : SqT K H a [.int (r : Int), .str (SX.S (kwd b)), .str (SX.S q)] := by cases b <;> exact hq
      k_updF
      refine WP.ixL hL2 (atI_nat hb) ?_
      k_updF
      refine WP.ixT hq WP.at1 ?_
      k_updF
      cases b with
      | true =>
        refine WP.brF (decide_eq_false (by decide)) ?_
        k_updF
        exact ⟨.refl, hd, [120], 10, by decide, rfl⟩
      | false =>
        refine WP.brT (decide_eq_true (by decide)) ?_
        k_updF
        refine WP.ixL hL2 (atI_nat hb) ?_
        k_updF
        refine WP.ixT hq WP.at2 ?_
        k_updF
        refine ⟨WP.sz (show 6 ≤ 1000000 by decide), fun l1 hl1 => ?_⟩
        have e1 : Same H (upd H l1 (.lst [.int 4, .int 5, .int 6, .int 7, .int 8, .int 9])) := WP.same_new hl1
        have g1 : (upd H l1 (.lst [.int 4, .int 5, .int 6, .int 7, .int 8, .int 9])) l1 = some (.lst [.int 4, .int 5, .int 6, .int 7, .int 8, .int 9]) := upd_same
        generalize upd H l1 _ = G1 at e1 g1 ⊢
        have nl1 := hd.new hl1
        k_updF
        refine ⟨d, ns, _, rfl, by decide, WP.bt8 (by decide), hd.same e1, fun v H2 v0 v1 s2 hd2 => ?_⟩
        obtain ⟨s, hs, ea⟩ := WP.at_M (l := [4, 5, 6, 7, 8, 9]) (fun n : Nat => V.int (n : Int)) v0 v1
        have hs10 : s ≤ 10 := (show ∀ s ∈ [4, 5, 6, 7, 8, 9], s ≤ 10 by decide) s hs
        refine WP.ixL (WP.sqlX s2 nl1.1 (SqL.of g1)) ea ?_
        have s2 := (WP.Sx.of e1).trans s2
        clear e1 g1 nl1 ea
        k_updF
        refine ⟨_, rfl, (ok.l _ (List.mem_of_getElem? htk)).1, fun H3 e3 => ?_⟩
        have hd3 := hd2.same e3
        have s3 := s2.trans (WP.Sx.of e3)
        k_updF
        refine WP.brB (fun _ => ?_) (fun _ => ?_)
        · k_updF
          exact ⟨s3, hd3, q, 6, by decide, rfl⟩
        k_updF
        refine ⟨_, rfl, ?_⟩
        k_updF
        refine WP.brB (fun _ => ?_) (fun _ => ?_)
        · k_updF
          refine ⟨d, ns, _, rfl, by decide, WP.bt8 (by decide), hd3, fun v H4 v0 v1 s4 hd4 => ?_⟩
          k_updF
          exact ⟨s3.trans s4, hd4, q, (7 + v).toNat, by omega, by rw [Int.toNat_of_nonneg (by omega)]; rfl⟩
        · k_updF
          exact ⟨s3, hd3, q, s, hs10, rfl⟩
    rintro σ' H1 ⟨s1, hd1, w0, sv, hsv, rfl⟩
    obtain ⟨yd, hyd⟩ := hd.lst
    k_updF
    refine ⟨d, ns, _, rfl, by decide, WP.bt8 (by decide), hd1, fun v H2 v0 v1 s2 hd2 => ?_⟩
    have s2 := s1.trans s2
    k_updF
    refine WP.cut (fun σ' H' => WP.Sx d H H' ∧ DS K H' d ns ∧ ∃ D : Nat, D ≤ 10 ∧ σ' = [some (.ref d), some (.ref L), some (.int n), some (.str (SX.S w0)), some (.int (sv : Int)), some (.int (D : Int)), none, none, none]) ?_ ?_
    · k_updF
      refine ⟨d, ns, _, rfl, by decide, WP.bt8 (by decide), hd2, fun u H3 u0 u1 s3 hd3 => ?_⟩
      k_updF
      refine WP.br (fun _ => ?_) (fun _ => ?_)
      · k_updF
        exact ⟨s2.trans s3, hd3, sv, hsv, rfl⟩
      · k_updF
        exact ⟨s2.trans s3, hd3, v.toNat, by omega, by rw [Int.toNat_of_nonneg v0]; rfl⟩
    clear s2 hd2 v0 v1
    rintro σ' H2 ⟨s2, hd2, D, hD, rfl⟩
    k_updF
    refine ⟨Nat.zero_le _, fun W hW => ?_⟩
    have nW := hd2.new hW
    have hW0 : H W = none := sx_free s2 nW.1 hW
    obtain ⟨hd3, _, s3, gW⟩ := hd2.alloc (o := .lst []) hW
    have s3 := s2.trans s3
    generalize upd H2 W _ = H3 at hd3 s3 gW ⊢
    k_updF
    refine ⟨_, rfl, by decide, by decide, for_range (lo := 0) (n := _) (fun i σ' H' => WP.Sx d H H' ∧ DS K H' d ns ∧ ∃ (ws : List (List Nat)) (z1 z2 : Option V), σ' = [some (.ref d), some (.ref L), some (.int n), some (.str (SX.S w0)), some (.int (sv : Int)), some (.int (D : Int)), some (.ref W), z1, z2] ∧ H' W = some (.lst (ws.map fun w => .str (SX.S w))) ∧ ws.length = i ∧ ∀ w ∈ ws, w ≠ []) ⟨s3, hd3, [], none, none, rfl, gW, rfl, fun w h => nomatch h⟩ ?_ ?_⟩
    · rintro i σ' H4 hi ⟨s4, hd4, ws, z1, z2, rfl, gW, hwl, hne⟩
      k_updF
      refine ⟨d, ns, rfl, hd4, fun l H5 hl s5 hd5 => ?_⟩
      have gW := s5 _ _ nW.1 gW
      have s5 := s4.trans s5
      k_updF
      refine WP.cut (fun σ' H' => WP.Sx d H H' ∧ DS K H' d ns ∧ H' W = some (.lst (ws.map fun w => .str (SX.S w))) ∧ ∃ (w : List Nat), w ≠ [] ∧ σ' = [some (.ref d), some (.ref L), some (.int n), some (.str (SX.S w0)), some (.int (sv : Int)), some (.int (D : Int)), some (.ref W), some (.int (0 + (i : Int))), some (.str (SX.S w))]) ?_ ?_
      · have lne : l ≠ [] := fun z => by have := hl.word.1; rw [z] at this; exact absurd this (by decide)
        have ht5 := ht.sx hyd nL s5
        obtain ⟨ys, hL5, hlen5⟩ := ht5.len
        k_updF
        refine WP.lenL hL5 ?_
        rw [hlen5]
        k_updF
        by_cases cE : n + i < rs.length
        rotate_left
        · refine WP.brF (decide_eq_false (by omega)) ?_
          refine WP.brF rfl ?_
          k_updF
          exact ⟨s5, hd5, gW, l, lne, rfl⟩
        refine WP.brT (decide_eq_true (by omega)) ?_
        obtain ⟨⟨r, b, q⟩, htk⟩ : ∃ t, rs[n + i]? = some t := ⟨_, List.getElem?_eq_getElem cE⟩
        obtain ⟨ys, a, hL2, hb, hq⟩ := ht5.tok htk
        have hq : SqT K H5 a [.int (r : Int), .str (SX.S (kwd b)), .str (SX.S q)] := by cases b <;> exact hq
        have hin : (n : Int) + (0 + (i : Int)) = ((n + i : Nat) : Int) := by omega
        k_updF
        rw [hin]
        refine WP.ixL hL2 (atI_nat hb) ?_
        k_updF
        refine WP.ixT hq WP.at1 ?_
        k_updF
        cases b with
        | true =>
          refine WP.brF (decide_eq_false (by decide)) ?_
          refine WP.brF rfl ?_
          k_updF
          exact ⟨s5, hd5, gW, l, lne, rfl⟩
        | false =>
          refine WP.brT (decide_eq_true (by decide)) ?_
          k_updF
          refine ⟨d, ns, _, rfl, by decide, WP.bt8 (by decide), hd5, fun v H6 v0 v1 s6 hd6 => ?_⟩
          have gW := s6 _ _ nW.1 gW
          have s6 := s5.trans s6
          k_updF
          refine WP.br (fun _ => ?_) (fun _ => ?_)
          · obtain ⟨ys, a, hL2, hb, hq⟩ := (ht.sx hyd nL s6).tok htk
            k_updF
            rw [hin]
            refine WP.ixL hL2 (atI_nat hb) ?_
            k_updF
            refine WP.ixT hq WP.at2 ?_
            k_updF
            exact ⟨s6, hd6, gW, q, (fun z => by have := ok.e _ (List.mem_of_getElem? htk) z; cases this), rfl⟩
          · k_updF
            exact ⟨s6, hd6, gW, l, lne, rfl⟩
      clear gW hd5 s5
      rintro σ' H6 ⟨s6, hd6, gW, w, wne, rfl⟩
      k_updF
      refine WP.tyL (SqL.of gW) ?_
      k_updF
      rw [show (3 : Int).toNat = 3 from rfl] at hi
      refine WP.appL gW (by rw [List.length_map, sizeLine_eq]; omega) ?_
      k_updF
      refine ⟨sx_mut s6 hW0, hd6.mut nW, ws ++ [w], _, _, rfl, by rw [upd_same, List.map_append]; rfl, by rw [List.length_append, hwl]; rfl, fun x hx => ?_⟩
      rcases List.mem_append.mp hx with e | e
      · exact hne x e
      · rw [List.mem_singleton.mp e]; exact wne
    rintro σ' H4 ⟨s4, hd4, ws, z1, z2, rfl, gW, hwl, hne⟩
    k_updF
    refine WP.iC ⟨by decide, by decide, by decide⟩ ?_
    k_updF
    refine WP.iC ⟨by decide, by decide, by decide⟩ ?_
    k_updF
    refine WP.iC ⟨by decide, by decide, by decide⟩ ?_
    k_updF
    have gW' := gW
    refine ⟨WP.sz (show 5 ≤ 1000000 by decide), fun l1 hl1 => ?_⟩
    have e1 : Same H4 (upd H4 l1 (.lst [.int 9, .int 50, .int (10 ^ (17 : Int).toNat), .int (10 ^ (18 : Int).toNat - 1), .int (10 ^ (20 : Int).toNat)])) := WP.same_new hl1
    have g1 : (upd H4 l1 (.lst [.int 9, .int 50, .int (10 ^ (17 : Int).toNat), .int (10 ^ (18 : Int).toNat - 1), .int (10 ^ (20 : Int).toNat)])) l1 = some (.lst [.int 9, .int 50, .int (10 ^ (17 : Int).toNat), .int (10 ^ (18 : Int).toNat - 1), .int (10 ^ (20 : Int).toNat)]) := upd_same
    generalize upd H4 l1 _ = G1 at e1 g1 ⊢
    have nl1 := hd4.new hl1
    have gW := e1 _ _ gW
    k_updF
    refine ⟨d, ns, _, rfl, by decide, WP.bt8 (by decide), hd4.same e1, fun v H5 v0 v1 s5 hd5 => ?_⟩
    have gW := s5 _ _ nW.1 gW
    obtain ⟨bound, _, ea⟩ := WP.at_M (l := [9, 50, 10 ^ (17 : Int).toNat, 10 ^ (18 : Int).toNat - 1, 10 ^ (20 : Int).toNat]) (fun n : Int => V.int n) v0 v1
    refine WP.ixL (WP.sqlX s5 nl1.1 (SqL.of g1)) ea ?_
    refine ⟨WP.sz (show 3 ≤ 1000000 by decide), fun t hq => ?_⟩
    obtain ⟨hd6, _, s6, g6⟩ := hd5.alloc (o := .tup [.int (D : Int), .ref W, .int bound]) hq
    exact k t W D ws bound _ (((s4.trans (WP.Sx.of e1)).trans s5).trans s6) hd6 hD hwl hne (s6 _ _ nW.1 gW) nW.1 (SqT.of g6)
  ))) only [D.box_eq]
end
abbrev s__law_row : Stmt := top 50
abbrev N__law_row : List Str := ["rows", "at"]
theorem sc__law_row : FnScope N__law_row ["rows", "at"] (defScope s__law_row) := ⟨rfl, rfl, rfl, by decide +kernel, rfl, by decide +kernel, by decide +kernel⟩
def sp__law_row (K : PySem.W.Frag) (mg : WP.MG) : Sp := fun vs H Q _ => ∃ (L : Addr) (rs : List (Nat × Tk)) (i : Int), vs = [.ref L, .int i] ∧ RtL K H L rs ∧ rs.length ≤ 100 ∧ -1 ≤ i ∧ (∀ n : Nat, i = (n : Int) → Q (.int (rowC rs n : Nat)) H) ∧ (i = -1 → ∀ r : Int, Q (.int r) H)
section
variable {P : Program} {w : World} {K : PySem.W.Frag} {mg : Str → Option Value} {base : Heap}
theorem ok__law_row {f : Addr} {fd : FuncData} (F : Fun K "_law_row" "_law_row" s__law_row f fd) (B : Blt w K mg)  : FnOk P w K mg base CX0 1 f fd ["rows", "at"] (sp__law_row K mg) := by
  show D.Box _
  simp (discharger := (with_unfolding_all (
  refine F.ok sc__law_row (fun vs H Q E h => ?_) (fun cdv A outer s H vs Q E hr h => ?_)
  · first | (obtain ⟨_, rfl, _⟩ := h; rfl) | (obtain ⟨_, _, rfl, _⟩ := h; rfl) | (obtain ⟨_, _, _, rfl, _⟩ := h; rfl) | (obtain ⟨_, _, _, _, rfl, _⟩ := h; rfl) | (obtain ⟨_, _, _, _, _, rfl, _⟩ := h; rfl) | (obtain ⟨_, _, _, _, _, _, rfl, _⟩ := h; rfl) | (obtain ⟨_, _, _, _, _, _, _, rfl, _⟩ := h; rfl) | (obtain ⟨_, _, _, _, _, _, _, _, rfl, _⟩ := h; rfl) | (obtain ⟨rfl, _⟩ := h; rfl)
  · obtain ⟨L, rs, i, rfl, ht, hn, hi, k, kN⟩ := h
    refine ⟨_, (pss_cons (ps_if (pt_cmpR op_eq (pe_callB WP.c_len (by rfl) B.b_len (by decide +kernel) (WP.pa_consN (pv 0) pa_nil)) pe_int (nomark _)) (pss_one (ps_ret pe_int)) pss_nil)
      (pss_one (ps_ret (pe_ix ix_tup (pe_ix ix_list (pv 0) (pe_callB (WP.c_min2 rfl) (by rfl) B.b_min (by decide +kernel) (WP.pa_consN (pv 1) (WP.pa_consN (pe_op op_sub (pe_callB WP.c_len (by rfl) B.b_len (by decide +kernel) (WP.pa_consN (pv 0) pa_nil)) pe_int) pa_nil))) (fun _ _ => rfl)) pe_int (fun _ _ => rfl))))), ?_⟩
    obtain ⟨xs, hL, hlen⟩ := ht.len
    k_updF
    refine WP.lenL hL ?_
    rw [hlen]
    k_updF
    rcases (show i = -1 ∨ 0 ≤ i by omega) with rfl | hi
    · have kN := kN rfl
      by_cases c0 : rs = []
      · refine WP.brT (decide_eq_true (by rw [c0]; rfl)) ?_
        k_updF
        exact kN _
      · have hl : 0 < rs.length := List.length_pos_iff.mpr c0
        refine WP.brF (decide_eq_false (by omega)) ?_
        k_updF
        refine WP.lenL hL ?_
        rw [hlen]
        k_updF
        refine WP.minI ?_
        obtain ⟨ys, b, t, hL2, hb, hq, _⟩ := ht.last hl
        rw [show min (-1 : Int) ((rs.length : Int) - 1) = -1 by omega]
        refine WP.ixL hL2 hb ?_
        k_updF
        refine WP.ixT hq WP.at0 ?_
        k_updF
        exact kN _
    obtain ⟨n, rfl⟩ : ∃ n : Nat, i = (n : Int) := ⟨i.toNat, by omega⟩
    have k := k n rfl
    unfold rowC at k
    by_cases c0 : rs = []
    · rw [if_pos c0] at k
      refine WP.brT (decide_eq_true (by rw [c0]; rfl)) ?_
      k_updF
      exact k
    · rw [if_neg c0] at k
      have hl : 0 < rs.length := List.length_pos_iff.mpr c0
      refine WP.brF (decide_eq_false (by omega)) ?_
      k_updF
      refine WP.lenL hL ?_
      rw [hlen]
      k_updF
      refine WP.minI ?_
      have hm : min n (rs.length - 1) < rs.length := by omega
      obtain ⟨t, htk⟩ : ∃ t, rs[min n (rs.length - 1)]? = some t := ⟨_, List.getElem?_eq_getElem hm⟩
      obtain ⟨ys, b, hL2, hb, hq⟩ := ht.tok htk
      rw [show min (n : Int) ((rs.length : Int) - 1) = ((min n (rs.length - 1) : Nat) : Int) by omega]
      refine WP.ixL hL2 (atI_nat hb) ?_
      k_updF
      refine WP.ixT hq WP.at0 ?_
      k_updF
      rw [htk] at k
      exact k
  ))) only [D.box_eq]
end
abbrev s__law_refused : Stmt := top 51
abbrev N__law_refused : List Str := ["rows", "at", "reason"]
theorem sc__law_refused : FnScope N__law_refused ["rows", "at", "reason"] (defScope s__law_refused) := ⟨rfl, rfl, rfl, by decide +kernel, rfl, by decide +kernel, by decide +kernel⟩
def sp__law_refused (K : PySem.W.Frag) (mg : WP.MG) : Sp := fun vs H Q _ => ∃ (L : Addr) (rs : List (Nat × Tk)) (n : Nat) (w : List Nat), vs = [.ref L, .int (n : Int), .str (SX.S w)] ∧ RtL K H L rs ∧ rs.length ≤ 100 ∧ n ≤ rs.length ∧ DueQ K H Q (refX rs n w)
section
variable {P : Program} {w : World} {K : PySem.W.Frag} {mg : Str → Option Value} {base : Heap}
theorem ok__law_refused {f : Addr} {fd : FuncData} (F : Fun K "_law_refused" "_law_refused" s__law_refused f fd) (B : Blt w K mg) (c__law_row : WP.Callee P w K mg base CX0 1 "_law_row" ["rows", "at"] (sp__law_row K mg)) : FnOk P w K mg base CX0 2 f fd ["rows", "at", "reason"] (sp__law_refused K mg) := by
  show D.Box _
  simp (discharger := (with_unfolding_all (
  refine F.ok sc__law_refused (fun vs H Q E h => ?_) (fun cdv A outer s H vs Q E hr h => ?_)
  · first | (obtain ⟨_, rfl, _⟩ := h; rfl) | (obtain ⟨_, _, rfl, _⟩ := h; rfl) | (obtain ⟨_, _, _, rfl, _⟩ := h; rfl) | (obtain ⟨_, _, _, _, rfl, _⟩ := h; rfl) | (obtain ⟨_, _, _, _, _, rfl, _⟩ := h; rfl) | (obtain ⟨_, _, _, _, _, _, rfl, _⟩ := h; rfl) | (obtain ⟨_, _, _, _, _, _, _, rfl, _⟩ := h; rfl) | (obtain ⟨_, _, _, _, _, _, _, _, rfl, _⟩ := h; rfl) | (obtain ⟨rfl, _⟩ := h; rfl)
  · obtain ⟨L, rs, n, w, rfl, ht, hz, hn, k⟩ := h
    refine ⟨_, (pss_cons (ps_if (pt_cmpR op_eq (pv 1) (pe_callB WP.c_len (by rfl) B.b_len (by decide +kernel) (WP.pa_consN (pv 0) pa_nil)) (nomark _)) (pss_one (ps_ret (pe_tup (WP.pa_consN (pe_tup (WP.pa_consN (WP.pe_strL [102, 97, 117, 108, 116] (by decide +kernel)) (WP.pa_consN (WP.pe_callC c__law_row hr rfl pass0 (WP.pa_consN (pv 0) (WP.pa_consN (pv 1) pa_nil))) (WP.pa_consN (WP.pe_strL [101, 110, 100] (by decide +kernel)) pa_nil)))) (WP.pa_consN (pv 1) pa_nil))))) pss_nil)
      (pss_one (ps_ret (pe_tup (WP.pa_consN (pe_tup (WP.pa_consN (WP.pe_strL [102, 97, 117, 108, 116] (by decide +kernel)) (WP.pa_consN (pe_ix ix_tup (pe_ix ix_list (pv 0) (pv 1) (fun _ _ => rfl)) pe_int (fun _ _ => rfl)) (WP.pa_consN (pv 2) pa_nil)))) (WP.pa_consN (pv 1) pa_nil)))))), ?_⟩
    obtain ⟨xs, hL, hlen⟩ := ht.len
    unfold refX rsn at k
    have fin : ∀ (z : List Nat), DueQ K H Q (.flt (rowC rs n) z, n) → [V.str (SX.S [102, 97, 117, 108, 116]), V.int (rowC rs n : Nat), V.str (SX.S z)].length ≤ sizeLine ∧ ∀ p, H p = none → tCons (tVar 1) tNil [some (V.ref L), some (V.int n), some (V.str (SX.S w))] (upd H p (.tup [.str (SX.S [102, 97, 117, 108, 116]), .int (rowC rs n : Nat), .str (SX.S z)])) fun ys H2 => (V.ref p :: ys).length ≤ sizeLine ∧ ∀ t, H2 t = none → Q (.ref t) (upd H2 t (.tup (V.ref p :: ys))) := fun z k => by
      refine ⟨WP.sz (show 3 ≤ 1000000 by decide), fun p hp => ?_⟩
      have e1 := WP.same_new (o := .tup [.str (SX.S [102, 97, 117, 108, 116]), .int (rowC rs n : Nat), .str (SX.S z)]) hp
      have g1 : upd H p (.tup [.str (SX.S [102, 97, 117, 108, 116]), .int (rowC rs n : Nat), .str (SX.S z)]) p = _ := upd_same
      generalize upd H p _ = H1 at e1 g1 ⊢
      k_updF
      refine ⟨WP.sz (show 2 ≤ 1000000 by decide), fun t hq => ?_⟩
      have e2 := WP.same_new (o := .tup [.ref p, .int (n : Int)]) hq
      exact k t p _ (e1.trans e2) (SqT.of upd_same) (SqT.of (e2 _ _ g1))
    k_updF
    refine WP.lenL hL ?_
    rw [hlen]
    k_updF
    by_cases c0 : n = rs.length
    · rw [if_pos c0] at k
      refine WP.brT (decide_eq_true (by omega)) ?_
      k_updF
      refine ⟨L, rs, n, rfl, ht, hz, by omega, fun m hm => ?_, fun z => by omega⟩
      obtain rfl : n = m := Int.ofNat.inj hm
      k_updF
      exact fin _ k
    rw [if_neg c0] at k
    refine WP.brF (decide_eq_false (by omega)) ?_
    obtain ⟨t, htk⟩ : ∃ t, rs[n]? = some t := ⟨_, List.getElem?_eq_getElem (by omega)⟩
    obtain ⟨ys, b, hL2, hb, hq⟩ := ht.tok htk
    have er : rowC rs n = t.1 := by
      unfold rowC
      rw [if_neg (fun z => by rw [z] at c0 hn; exact c0 (Nat.le_zero.mp hn)), show min n (rs.length - 1) = n by omega, htk]
      rfl
    k_updF
    refine WP.ixL hL2 (atI_nat hb) ?_
    k_updF
    refine WP.ixT hq WP.at0 ?_
    k_updF
    rw [← er]
    exact fin _ k
  ))) only [D.box_eq]
end
abbrev s__law_integer : Stmt := top 52
abbrev N__law_integer : List Str := ["rows", "at", "peek", "least", "greatest"]
theorem sc__law_integer : FnScope N__law_integer ["rows", "at", "peek", "least", "greatest"] (defScope s__law_integer) := ⟨rfl, rfl, rfl, by decide +kernel, rfl, by decide +kernel, by decide +kernel⟩
def sp__law_integer (K : PySem.W.Frag) (mg : WP.MG) : Sp := fun vs H Q _ => ∃ (L : Addr) (rs : List (Nat × Tk)) (n : Nat) (w : List Nat) (lo hi : Int), vs = [.ref L, .int (n : Int), .str (SX.S w), .int lo, .int hi] ∧ RtL K H L rs ∧ rs.length ≤ 100 ∧ n ≤ rs.length ∧ w.length ≤ 1000 ∧ DueQ K H Q (intX rs n w lo hi)
section
variable {P : Program} {w : World} {K : PySem.W.Frag} {mg : Str → Option Value} {base : Heap}
theorem ok__law_integer {f : Addr} {fd : FuncData} (F : Fun K "_law_integer" "_law_integer" s__law_integer f fd) (B : Blt w K mg) (c__law_are_figures : WP.Callee P w K mg base CX0 1 "_law_are_figures" ["word"] (sp__law_are_figures K mg)) (c__law_refused : WP.Callee P w K mg base CX0 2 "_law_refused" ["rows", "at", "reason"] (sp__law_refused K mg)) : FnOk P w K mg base CX0 3 f fd ["rows", "at", "peek", "least", "greatest"] (sp__law_integer K mg) := by
  show D.Box _
  simp (discharger := (with_unfolding_all (
  refine F.ok sc__law_integer (fun vs H Q E h => ?_) (fun cdv A outer s H vs Q E hr h => ?_)
  · first | (obtain ⟨_, rfl, _⟩ := h; rfl) | (obtain ⟨_, _, rfl, _⟩ := h; rfl) | (obtain ⟨_, _, _, rfl, _⟩ := h; rfl) | (obtain ⟨_, _, _, _, rfl, _⟩ := h; rfl) | (obtain ⟨_, _, _, _, _, rfl, _⟩ := h; rfl) | (obtain ⟨_, _, _, _, _, _, rfl, _⟩ := h; rfl) | (obtain ⟨_, _, _, _, _, _, _, rfl, _⟩ := h; rfl) | (obtain ⟨_, _, _, _, _, _, _, _, rfl, _⟩ := h; rfl) | (obtain ⟨rfl, _⟩ := h; rfl)
  · obtain ⟨L, rs, n, w, lo, hi, rfl, ht, hz, hn, hw, k⟩ := h
    refine ⟨_, (pss_cons (ps_if (pt_not (pt_val (WP.pe_callC c__law_are_figures hr rfl pass0 (WP.pa_consN (pv 2) pa_nil)))) (pss_one (ps_ret (WP.pe_callC c__law_refused hr rfl pass0 (WP.pa_consN (pv 0) (WP.pa_consN (pv 1) (WP.pa_consN (WP.pe_strL [119, 111, 114, 100] (by decide +kernel)) pa_nil)))))) pss_nil)
      (pss_cons (ps_if (PW.pt (pw_or (pt_cmpR op_gt (pe_callB WP.c_len (by rfl) B.b_len (by decide +kernel) (WP.pa_consN (pv 2) pa_nil)) pe_int (nomark _)) (pw_or (PW.pt (pw_and (pt_cmpR op_gt (pe_callB WP.c_len (by rfl) B.b_len (by decide +kernel) (WP.pa_consN (pv 2) pa_nil)) pe_int (nomark _)) (pw_and1 (pt_cmpR op_eq (pe_ix ix_str (pv 2) pe_int (fun _ _ => rfl)) (WP.pe_strL [48] (by decide +kernel)) (nomark _))))) (pw_or (pt_cmpR op_lt (pe_callTy WP.c_intS (by rfl) B.b_int (by decide +kernel) (WP.pa_consN (pv 2) pa_nil)) (pv 3) (nomark _)) (pw_or1 (pt_cmpR op_gt (pe_callTy WP.c_intS (by rfl) B.b_int (by decide +kernel) (WP.pa_consN (pv 2) pa_nil)) (pv 4) (nomark _))))))) (pss_one (ps_ret (WP.pe_callC c__law_refused hr rfl pass0 (WP.pa_consN (pv 0) (WP.pa_consN (pv 1) (WP.pa_consN (WP.pe_strL [118, 97, 108, 117, 101] (by decide +kernel)) pa_nil)))))) pss_nil)
      (pss_one (ps_ret (pe_tup (WP.pa_consN (pe_tup (WP.pa_consN (WP.pe_strL [118, 97, 108, 117, 101] (by decide +kernel)) (WP.pa_consN (pe_callTy WP.c_intS (by rfl) B.b_int (by decide +kernel) (WP.pa_consN (pv 2) pa_nil)) pa_nil))) (WP.pa_consN (pe_op op_add (pv 1) pe_int) pa_nil))))))), ?_⟩
    k_updF
    refine ⟨w, rfl, ?_⟩
    k_updF
    unfold intX at k
    have hzw : w.length ≤ sizeLine := by rw [sizeLine_eq]; omega
    cases e : MW.figs w with
    | false =>
      rw [if_pos e] at k
      refine WP.brT rfl ?_
      k_updF
      exact ⟨L, rs, n, kWORD, rfl, ht, hz, hn, k⟩
    | true =>
      rw [if_neg (by rw [e]; decide)] at k
      refine WP.brF rfl ?_
      have hne : w ≠ [] := fun z => by rw [z] at e; cases e
      have dg := (MW.figs_all e).2
      have hpos := List.length_pos_iff.mpr hne
      have out : intW w = false ∨ ¬ (lo ≤ (NumText.digitsVal w : Int) ∧ (NumText.digitsVal w : Int) ≤ hi) → sp__law_refused K mg [.ref L, .int (n : Int), .str (SX.S kVALU)] H Q E := fun z => by
        rw [if_pos z] at k
        exact ⟨L, rs, n, kVALU, rfl, ht, hz, hn, k⟩
      k_updF
      refine WP.lenS' hzw ?_
      k_updF
      by_cases c0 : w.length ≤ 18
      · refine WP.brF (decide_eq_false (by omega)) ?_
        k_updF
        refine WP.lenS' hzw ?_
        k_updF
        obtain ⟨x, r, rfl⟩ := List.exists_cons_of_ne_nil hne
        have ex : decide ([x] = [48]) = decide (x = 48) := decide_eq_decide.mpr ⟨fun h => by injection h, fun h => by rw [h]⟩
        have eW : intW (x :: r) = (decide (x :: r = [48]) || !decide (x = 48)) := by unfold intW; rw [decide_eq_true c0]; rfl
        refine WP.br (fun d1 => ?_) (fun d1 => ?_)
        · k_updF
          refine WP.ixS1 (c := x) (atI_nat (j := 0) rfl) hzw ?_
          k_updF
          rw [ex]
          refine WP.br (fun d2 => ?_) (fun d2 => ?_)
          · refine WP.brT rfl ?_
            k_updF
            refine out (.inl ?_)
            rw [eW, decide_eq_true d2]
            have : (x :: r) ≠ [48] := fun z => by rw [z] at d1; exact absurd d1 (by decide)
            rw [decide_eq_false this]
            rfl
          · have hW : intW (x :: r) = true := by rw [eW, decide_eq_false d2, Bool.not_false, Bool.or_true]
            k_updF
            refine WP.intSd dg hne (by omega) ?_
            k_updF
            by_cases g1 : lo ≤ (NumText.digitsVal (x :: r) : Int)
            · refine WP.brF (decide_eq_false (by omega)) ?_
              k_updF
              refine WP.intSd dg hne (by omega) ?_
              k_updF
              by_cases g2 : (NumText.digitsVal (x :: r) : Int) ≤ hi
              · refine WP.brF (decide_eq_false (by omega)) ?_
                k_updF
                refine WP.intSd dg hne (by omega) ?_
                refine ⟨WP.sz (show 2 ≤ 1000000 by decide), fun p hp => ?_⟩
                rw [if_neg (show ¬ (intW (x :: r) = false ∨ ¬ (lo ≤ (NumText.digitsVal (x :: r) : Int) ∧ (NumText.digitsVal (x :: r) : Int) ≤ hi)) from fun z => z.elim (fun z => by rw [hW] at z; cases z) fun z => z ⟨g1, g2⟩)] at k
                have e1 := WP.same_new (o := .tup [.str (SX.S kVALU), .int (NumText.digitsVal (x :: r) : Nat)]) hp
                have g1 : upd H p (.tup [.str (SX.S kVALU), .int (NumText.digitsVal (x :: r) : Nat)]) p = _ := upd_same
                k_updF
                refine ⟨WP.sz (show 2 ≤ 1000000 by decide), fun t hq => ?_⟩
                have e2 := WP.same_new (o := .tup [.ref p, .int ((n : Int) + 1)]) hq
                exact k t p _ (e1.trans e2) (SqT.of upd_same) (SqT.of (e2 _ _ g1))
              · refine WP.brT (decide_eq_true (by omega)) ?_
                k_updF
                exact out (.inr fun z => g2 z.2)
            · refine WP.brT (decide_eq_true (by omega)) ?_
              refine WP.brT rfl ?_
              k_updF
              exact out (.inr fun z => g1 z.1)
        · have hW : intW (x :: r) = true := by
            rw [eW]
            have : r = [] := List.length_eq_zero_iff.mp (by rw [List.length_cons] at d1; omega)
            rw [this]
            by_cases z : x = 48
            · rw [z]; rfl
            · rw [decide_eq_false z]; exact Bool.or_true _
          refine WP.brF rfl ?_
          k_updF
          refine WP.intSd dg hne (by omega) ?_
          k_updF
          by_cases g1 : lo ≤ (NumText.digitsVal (x :: r) : Int)
          · refine WP.brF (decide_eq_false (by omega)) ?_
            k_updF
            refine WP.intSd dg hne (by omega) ?_
            k_updF
            by_cases g2 : (NumText.digitsVal (x :: r) : Int) ≤ hi
            · refine WP.brF (decide_eq_false (by omega)) ?_
              k_updF
              refine WP.intSd dg hne (by omega) ?_
              refine ⟨WP.sz (show 2 ≤ 1000000 by decide), fun p hp => ?_⟩
              rw [if_neg (show ¬ (intW (x :: r) = false ∨ ¬ (lo ≤ (NumText.digitsVal (x :: r) : Int) ∧ (NumText.digitsVal (x :: r) : Int) ≤ hi)) from fun z => z.elim (fun z => by rw [hW] at z; cases z) fun z => z ⟨g1, g2⟩)] at k
              have e1 := WP.same_new (o := .tup [.str (SX.S kVALU), .int (NumText.digitsVal (x :: r) : Nat)]) hp
              have g1 : upd H p (.tup [.str (SX.S kVALU), .int (NumText.digitsVal (x :: r) : Nat)]) p = _ := upd_same
              k_updF
              refine ⟨WP.sz (show 2 ≤ 1000000 by decide), fun t hq => ?_⟩
              have e2 := WP.same_new (o := .tup [.ref p, .int ((n : Int) + 1)]) hq
              exact k t p _ (e1.trans e2) (SqT.of upd_same) (SqT.of (e2 _ _ g1))
            · refine WP.brT (decide_eq_true (by omega)) ?_
              k_updF
              exact out (.inr fun z => g2 z.2)
          · refine WP.brT (decide_eq_true (by omega)) ?_
            refine WP.brT rfl ?_
            k_updF
            exact out (.inr fun z => g1 z.1)
      · refine WP.brT (decide_eq_true (by omega)) ?_
        refine WP.brT rfl ?_
        k_updF
        exact out (.inl (by unfold intW; rw [decide_eq_false c0]; rfl))
  ))) only [D.box_eq]
end
abbrev s__law_parse : Stmt := top 44
abbrev N__law_parse : List Str := ["word", "body", "parts", "figures", "units", "scale", "k"]
theorem sc__law_parse : FnScope N__law_parse ["word"] (defScope s__law_parse) := ⟨rfl, rfl, rfl, by decide +kernel, rfl, by decide +kernel, by decide +kernel⟩
theorem nrm_neg : ∀ (s : Nat) (u : Int), MD.nrm (-u) s = (-(MD.nrm u s).1, (MD.nrm u s).2)
  | 0, u => rfl
  | s + 1, u => by
    by_cases h : u % 10 = 0
    · have h2 : (-u) % 10 = 0 := by omega
      have e1 : MD.nrm (-u) (s + 1) = MD.nrm (-u / 10) s := if_pos h2
      have e2 : MD.nrm u (s + 1) = MD.nrm (u / 10) s := if_pos h
      rw [e1, e2, show -u / 10 = -(u / 10) by omega]
      exact nrm_neg s _
    · have h2 : ¬ (-u) % 10 = 0 := by omega
      have e1 : MD.nrm (-u) (s + 1) = (-u, s + 1) := if_neg h2
      have e2 : MD.nrm u (s + 1) = (u, s + 1) := if_neg h
      rw [e1, e2]
def sp__law_parse (K : PySem.W.Frag) (mg : WP.MG) : Sp := fun vs H Q _ => ∃ l : List Nat, vs = [.str (SX.S l)] ∧ l.length ≤ 1000 ∧ (MT.spell l = none → ∀ H', Same H H' → Q .non H') ∧ (∀ u s, MT.spell l = some (u, s) → WP.RetT (WP.dv u s) H Q)
section
variable {P : Program} {w : World} {K : PySem.W.Frag} {mg : Str → Option Value} {base : Heap}
theorem ok__law_parse {f : Addr} {fd : FuncData} (F : Fun K "_law_parse" "_law_parse" s__law_parse f fd) (B : Blt w K mg) (c__law_are_figures : WP.Callee P w K mg base CX0 1 "_law_are_figures" ["word"] (sp__law_are_figures K mg)) : FnOk P w K mg base CX0 2 f fd ["word"] (sp__law_parse K mg) := by
  show D.Box _
  simp (discharger := (with_unfolding_all (
  refine F.ok sc__law_parse (fun vs H Q E h => ?_) (fun cdv A outer s H vs Q E hr h => ?_)
  · first | (obtain ⟨_, rfl, _⟩ := h; rfl) | (obtain ⟨_, _, rfl, _⟩ := h; rfl) | (obtain ⟨_, _, _, rfl, _⟩ := h; rfl) | (obtain ⟨_, _, _, _, rfl, _⟩ := h; rfl) | (obtain ⟨_, _, _, _, _, rfl, _⟩ := h; rfl) | (obtain ⟨_, _, _, _, _, _, rfl, _⟩ := h; rfl) | (obtain ⟨_, _, _, _, _, _, _, rfl, _⟩ := h; rfl) | (obtain ⟨_, _, _, _, _, _, _, _, rfl, _⟩ := h; rfl) | (obtain ⟨rfl, _⟩ := h; rfl)
  · obtain ⟨l, rfl, hl, kN, kS⟩ := h
    refine ⟨_, (pss_cons (ps_set (i := 1) sc__law_parse.nd rfl (Or.inl rfl) (pv 0))
      (Evl.pss_cut (ps_if (pt_cmpR op_eq (pe_slice sl_str (pv 0) po_none (po_some pe_int)) (WP.pe_strL [45] (by decide +kernel)) (nomark _)) (pss_one (ps_set (i := 1) sc__law_parse.nd rfl (Or.inl rfl) (pe_slice sl_str (pv 0) (po_some pe_int) po_none))) pss_nil)
      (pss_cons (ps_set (i := 2) sc__law_parse.nd rfl (Or.inl rfl) (pe_bm PySem.F.plainAttrs_str PySem.F.slot_str_split PySem.F.type_str_split mt_split (pv 1) (WP.pa_consN (WP.pe_strL [46] (by decide +kernel)) pa_nil)))
      (pss_cons (ps_set (i := 3) sc__law_parse.nd rfl (Or.inl rfl) (pe_bm PySem.F.plainAttrs_str PySem.F.slot_str_join PySem.F.type_str_join mt_join (WP.pe_strL [] (by decide +kernel)) (WP.pa_consN (pv 2) pa_nil)))
      (Evl.pss_cut (ps_if (PW.pt (pw_or (pt_cmpR op_gt (pe_callB WP.c_len (by rfl) B.b_len (by decide +kernel) (WP.pa_consN (pv 2) pa_nil)) pe_int (nomark _)) (pw_or (pt_not (pt_val (WP.pe_callC c__law_are_figures hr rfl pass0 (WP.pa_consN (pe_ix ix_list (pv 2) pe_int (fun _ _ => rfl)) pa_nil)))) (pw_or (pt_not (pt_val (WP.pe_callC c__law_are_figures hr rfl pass0 (WP.pa_consN (pe_ix ix_list (pv 2) (pe_un un_neg pe_int) (fun _ _ => rfl)) pa_nil)))) (pw_or1 (pt_cmpR op_gt (pe_callB WP.c_len (by rfl) B.b_len (by decide +kernel) (WP.pa_consN (pv 3) pa_nil)) pe_int (nomark _))))))) (pss_one (ps_ret pe_non)) pss_nil)
      (Evl.pss_cut (ps_if (PW.pt (pw_and (pt_cmpR op_gt (pe_callB WP.c_len (by rfl) B.b_len (by decide +kernel) (WP.pa_consN (pe_ix ix_list (pv 2) pe_int (fun _ _ => rfl)) pa_nil)) pe_int (nomark _)) (pw_and1 (pt_cmpR op_eq (pe_ix ix_str (pe_ix ix_list (pv 2) pe_int (fun _ _ => rfl)) pe_int (fun _ _ => rfl)) (WP.pe_strL [48] (by decide +kernel)) (nomark _))))) (pss_one (ps_ret pe_non)) pss_nil)
      (pss_cons (ps_set (i := 4) sc__law_parse.nd rfl (Or.inl rfl) (pe_callTy WP.c_intS (by rfl) B.b_int (by decide +kernel) (WP.pa_consN (pv 3) pa_nil)))
      (pss_cons (ps_set (i := 5) sc__law_parse.nd rfl (Or.inl rfl) (pe_op op_sub (pe_callB WP.c_len (by rfl) B.b_len (by decide +kernel) (WP.pa_consN (pv 3) pa_nil)) (pe_callB WP.c_len (by rfl) B.b_len (by decide +kernel) (WP.pa_consN (pe_ix ix_list (pv 2) pe_int (fun _ _ => rfl)) pa_nil))))
      (pss_cons (ps_for PassesOwn.never rfl (pi_range1 rfl B.b_range (WP.pa_consN pe_int pa_nil)) (pg_name (i := 6) sc__law_parse.nd rfl (Or.inl rfl)) (pss_one (ps_if (PW.pt (pw_and (pt_cmpR op_gt (pv 5) pe_int (nomark _)) (pw_and1 (pt_cmpR op_eq (pe_op op_mod (pv 4) pe_int) pe_int (nomark _))))) (pss_cons (ps_set (i := 4) sc__law_parse.nd rfl (Or.inl rfl) (pe_op op_fdiv (pv 4) pe_int))
      (pss_one (ps_set (i := 5) sc__law_parse.nd rfl (Or.inl rfl) (pe_op op_sub (pv 5) pe_int)))) pss_nil)))
      (Evl.pss_cut (ps_if (pt_cmpR op_eq (pe_slice sl_str (pv 0) po_none (po_some pe_int)) (WP.pe_strL [45] (by decide +kernel)) (nomark _)) (pss_one (ps_set (i := 4) sc__law_parse.nd rfl (Or.inl rfl) (pe_un un_neg (pv 4)))) pss_nil)
      (pss_one (ps_ret (pe_tup (WP.pa_consN (pv 4) (WP.pa_consN (pv 5) pa_nil))))))))))))))), ?_⟩
    have hz : l.length ≤ sizeLine := by rw [sizeLine_eq]; omega
    have h45 : decide (l.take 1 = [45]) = MT.isNeg l := by
      unfold MT.isNeg
      congr 1
      cases l with
      | nil => exact propext ⟨fun h => by simp at h, fun h => by cases h⟩
      | cons a r => exact propext ⟨fun h => by simp at h; rw [h]; rfl, fun h => by simp at h; rw [h]; rfl⟩
    k_updF
    refine WP.cut (fun σ' H' => H' = H ∧ σ' = [some (.str (SX.S l)), some (.str (SX.S (MT.bodyOf l))), none, none, none, none, none]) ?_ ?_
    · k_updF
      refine WP.slTo (by decide) hz ?_
      k_updF
      rw [show (1 : Int).toNat = 1 from rfl, h45]
      cases hn : MT.isNeg l with
      | true =>
        refine WP.brT rfl ?_
        k_updF
        refine WP.slFrom (by decide) hz ?_
        k_updF
        refine ⟨rfl, ?_⟩
        rw [show MT.bodyOf l = l.drop (1 : Int).toNat by unfold MT.bodyOf; rw [if_pos hn]; rfl]
        rfl
      | false =>
        refine WP.brF rfl ?_
        k_updF
        refine ⟨rfl, ?_⟩
        rw [show MT.bodyOf l = l by unfold MT.bodyOf; rw [if_neg (by rw [hn]; exact Bool.false_ne_true)]]
        rfl
    rintro σ' H' ⟨rfl, rfl⟩
    have hb := MT.body_len l
    rw [MT.spell_def, MT.read_spell] at kN kS
    generalize MT.bodyOf l = b at hb kN kS ⊢
    have hfl := MT.spl_flat (c := 46) b.length b (Nat.le_refl _)
    have h1 := MT.spl_ne (c := 46) b
    have hcnt := MT.spl_count (c := 46) b.length b (Nat.le_refl _)
    k_updF
    refine ⟨_, _, rfl, rfl, rfl, by rw [SX.S_len, sizeLine_eq]; omega, fun p hp => ?_⟩
    rw [SX.split_S (by decide) (by decide), List.map_map]
    have e1 : Same H' (upd H' p (.lst ((TL.spl [46] 0 [] b).map (V.str ∘ SX.S)))) := WP.same_new hp
    have hpp : SqL K (upd H' p (.lst ((TL.spl [46] 0 [] b).map (V.str ∘ SX.S)))) p ((TL.spl [46] 0 [] b).map fun a => V.str (SX.S a)) := SqL.of upd_same
    generalize upd H' p _ = H1 at e1 hpp ⊢
    generalize TL.spl [46] 0 [] b = ps at hfl h1 hcnt kN kS hpp
    generalize MT.isNeg l = ng at h45 kN kS
    k_updF
    refine ⟨_, p, ps.map SX.S, rfl, rfl, .inl (by rw [List.map_map]; exact hpp), ?_, ?_⟩
    · rw [SX.lens, ← List.length_flatten, SX.S_len, List.length_nil, Nat.mul_zero]; omega
    rw [SX.join_S, MT.joinL0]
    k_updF
    have no : MT.readP ng ps = none → ∀ H2, Same H1 H2 → Q .non H2 := fun e H2 e2 => kN e H2 (e1.trans e2)
    by_cases c2 : ps.length ≤ 2
    rotate_left
    · refine WP.cut (fun _ _ => False) ?_ (fun _ _ h => h.elim)
      k_updF
      refine WP.lenL hpp ?_
      rw [List.length_map]
      k_updF
      refine WP.brT (decide_eq_true (by omega)) ?_
      refine WP.brT rfl ?_
      k_updF
      refine no ?_ _ (fun _ _ z => z)
      unfold MT.readP
      rw [if_pos (.inl (by omega))]
    obtain ⟨w, lw, S, a0, aN, hall, hS, hSv⟩ : ∃ (w lw : List Nat) (S : Nat), atI (ps.map fun a => V.str (SX.S a)) 0 = some (.str (SX.S w)) ∧ atI (ps.map fun a => V.str (SX.S a)) (-1) = some (.str (SX.S lw)) ∧ ps.all MW.figs = (MW.figs w && MW.figs lw) ∧ ps.flatten.length = w.length + S ∧ ps.headD [] = w ∧ S = (if ps.length = 2 then (ps.getD 1 []).length else 0) ∧ ∃ y, ps.flatten = w ++ y := by
      rcases ps with _ | ⟨w, _ | ⟨f, _ | ⟨g, r⟩⟩⟩
      · exact absurd h1 (by decide)
      · exact ⟨w, w, 0, rfl, rfl, by simp, by simp, rfl, rfl, [], by simp⟩
      · exact ⟨w, f, f.length, rfl, rfl, by simp, by simp, rfl, rfl, f, by simp⟩
      · exact absurd c2 (by simp)
    obtain ⟨hw0, hSv, y, hfy⟩ := hSv
    have r1 : MT.readP ng ps = if ps.flatten.length > 18 then none else if (MW.figs w && MW.figs lw) = false then none else if w.length > 1 ∧ w.headD 0 = 48 then none else some (MD.nrm (MT.sgn ng (NumText.digitsVal ps.flatten)) S) := by
      unfold MT.readP
      rw [hall, hw0, ← hSv]
      by_cases z : ps.flatten.length > 18
      · rw [if_pos (.inr z), if_pos z]
      · rw [if_neg (fun q => q.elim (fun q => by omega) z), if_neg z]
    have hfl2 : MW.figs w = true → MW.figs lw = true → ps.flatten.all (fun c => decide (48 ≤ c) && decide (c ≤ 57)) = true := fun z1 z2 => by
      rw [z1, z2] at hall
      refine List.all_eq_true.mpr fun c hc => ?_
      obtain ⟨a, ha, hca⟩ := List.mem_flatten.mp hc
      exact List.all_eq_true.mp (MW.figs_all (List.all_eq_true.mp hall a ha)).2 c hca
    rw [r1] at no kS
    clear r1 kN hall hw0 hSv
    generalize ps.flatten = F at hfl hS hfy hfl2 no kS ⊢
    k_updF
    refine WP.cut (fun σ' H3 => H3 = H1 ∧ σ' = [some (.str (SX.S l)), some (.str (SX.S b)), some (.ref p), some (.str (SX.S F)), none, none, none] ∧ MW.figs w = true ∧ MW.figs lw = true ∧ F.length ≤ 18) ?_ ?_
    · k_updF
      refine WP.lenL hpp ?_
      rw [List.length_map]
      k_updF
      refine WP.brF (decide_eq_false (by omega)) ?_
      k_updF
      refine WP.ixL hpp a0 ?_
      k_updF
      refine ⟨w, rfl, ?_⟩
      k_updF
      by_cases f1 : MW.figs w = true
      rotate_left
      · have f1 := Bool.eq_false_iff.mpr f1
        refine WP.brT (by rw [f1]; rfl) ?_
        refine WP.brT rfl ?_
        k_updF
        refine no ?_ _ (fun _ _ z => z)
        split
        · rfl
        · rw [if_pos (by rw [f1]; rfl)]
      refine WP.brF (by rw [f1]; rfl) ?_
      k_updF
      refine WP.ixL hpp aN ?_
      k_updF
      refine ⟨lw, rfl, ?_⟩
      k_updF
      by_cases f2 : MW.figs lw = true
      rotate_left
      · have f2 := Bool.eq_false_iff.mpr f2
        refine WP.brT (by rw [f2]; rfl) ?_
        refine WP.brT rfl ?_
        k_updF
        refine no ?_ _ (fun _ _ z => z)
        split
        · rfl
        · rw [if_pos (by rw [f2, Bool.and_false])]
      refine WP.brF (by rw [f2]; rfl) ?_
      k_updF
      refine WP.lenS' (by rw [sizeLine_eq]; omega) ?_
      k_updF
      refine WP.br (fun f3 => ?_) (fun f3 => ?_)
      · k_updF
        refine no ?_ _ (fun _ _ z => z)
        rw [if_pos (by omega)]
      k_updF
      exact ⟨rfl, rfl, f1, f2, by omega⟩
    rintro σ' H3 ⟨rfl, rfl, f1, f2, f3⟩
    rw [if_neg (by omega), if_neg (by rw [f1, f2]; decide)] at no kS
    have hwf := MW.figs_all f1
    have hwl : w.length ≤ 1000 := by omega
    have hzw : w.length ≤ sizeLine := by rw [sizeLine_eq]; omega
    have hFd := hfl2 f1 f2
    have hFn : F ≠ [] := fun e => hwf.1 (by rw [hfy] at e; exact (List.append_eq_nil_iff.mp e).1)
    k_updF
    refine WP.cut (fun σ' H4 => H4 = H3 ∧ σ' = [some (.str (SX.S l)), some (.str (SX.S b)), some (.ref p), some (.str (SX.S F)), none, none, none] ∧ ¬ (w.length > 1 ∧ w.headD 0 = 48)) ?_ ?_
    · k_updF
      refine WP.ixL hpp a0 ?_
      k_updF
      refine WP.lenS' hzw ?_
      k_updF
      refine WP.br (fun d => ?_) (fun d => ?_)
      · k_updF
        refine WP.ixL hpp a0 ?_
        k_updF
        refine WP.ixS1 (MW.ends (by omega)).1 hzw ?_
        k_updF
        generalize w.headD 0 = x at no ⊢
        rw [show decide ([x] = [48]) = decide (x = 48) by congr 1; exact propext ⟨fun z => by simpa using z, fun z => by rw [z]⟩]
        refine WP.br (fun d2 => ?_) (fun d2 => ?_)
        · k_updF
          exact no (if_pos ⟨by omega, d2⟩) _ (fun _ _ z => z)
        · k_updF
          exact ⟨rfl, rfl, fun z => d2 z.2⟩
      · refine WP.brF rfl ?_
        k_updF
        exact ⟨rfl, rfl, fun z => d (by omega)⟩
    rintro σ' H4 ⟨rfl, rfl, hnz⟩
    rw [if_neg hnz] at kS
    have kS := kS _ _ rfl
    k_updF
    refine WP.intSd hFd hFn (by omega) ?_
    k_updF
    refine WP.lenS' (by rw [sizeLine_eq]; omega) ?_
    k_updF
    refine WP.ixL hpp a0 ?_
    k_updF
    refine WP.lenS' hzw ?_
    k_updF
    rw [show (F.length : Int) - (w.length : Int) = (S : Int) by omega]
    have hS18 : S ≤ 18 := by omega
    have nst : ∀ (t : Nat) (u : Int), t = 0 ∨ u % 10 ≠ 0 → MD.nrm u t = (u, t) := fun t u h => by
      cases t with
      | zero => rfl
      | succ t => rcases h with h | h
                  · cases h
                  · exact if_neg h
    refine ⟨_, rfl, by decide, by decide, for_range (lo := 0) (n := _) (fun i σ' H' => H' = H4 ∧ ∃ (u : Int) (t : Nat) (z : Option V), σ' = [some (.str (SX.S l)), some (.str (SX.S b)), some (.ref p), some (.str (SX.S F)), some (.int u), some (.int (t : Int)), z] ∧ MD.nrm u t = MD.nrm (NumText.digitsVal F : Nat) S ∧ t ≤ 18 ∧ (t + i = S ∨ (t = 0 ∨ u % 10 ≠ 0))) ⟨rfl, _, S, _, rfl, rfl, hS18, .inl (by omega)⟩ ?_ ?_⟩
    · rintro i σ' H5 hi ⟨rfl, u, t, z, rfl, hn, ht, hc⟩
      k_updF
      by_cases c1 : t = 0
      · refine WP.brF (decide_eq_false (by omega)) ?_
        k_updF
        exact ⟨rfl, u, t, _, rfl, hn, ht, .inr (.inl c1)⟩
      refine WP.brT (decide_eq_true (by omega)) ?_
      k_updF
      refine WP.iC (by decide) ?_
      k_updF
      by_cases c2 : u % 10 = 0
      · refine WP.brT (decide_eq_true c2) ?_
        k_updF
        refine WP.iC ⟨by decide, by decide⟩ ?_
        k_updF
        obtain ⟨t', rfl⟩ : ∃ t', t = t' + 1 := ⟨t - 1, by omega⟩
        rw [show ((t' + 1 : Nat) : Int) - 1 = (t' : Int) by omega]
        exact ⟨rfl, u / 10, t', _, rfl, (show MD.nrm (u / 10) t' = MD.nrm u (t' + 1) from (if_pos c2).symm).trans hn, by omega, hc.elim (fun h => .inl (by omega)) (fun h => h.elim (fun h => absurd h (by omega)) fun h => absurd c2 h)⟩
      · refine WP.brF (decide_eq_false c2) ?_
        k_updF
        exact ⟨rfl, u, t, _, rfl, hn, ht, .inr (.inr c2)⟩
    rintro σ' H5 ⟨rfl, u, t, z, rfl, hn, ht, hc⟩
    have hc : t = 0 ∨ u % 10 ≠ 0 := hc.elim (fun h => .inl (by rw [show (18 : Int).toNat = 18 from rfl] at h; omega)) id
    rw [nst t u hc] at hn
    have en : MD.nrm (MT.sgn ng (NumText.digitsVal F)) S = (if ng = true then -u else u, t) := by
      unfold MT.sgn
      cases ng with
      | true => rw [if_pos rfl, if_pos rfl, nrm_neg, ← hn]
      | false => rw [if_neg (by decide), if_neg (by decide), ← hn]
    rw [en] at kS
    k_updF
    refine WP.cut (fun σ' H6 => H6 = H5 ∧ σ' = [some (.str (SX.S l)), some (.str (SX.S b)), some (.ref p), some (.str (SX.S F)), some (.int (if ng = true then -u else u)), some (.int (t : Int)), z]) ?_ ?_
    · k_updF
      refine WP.slTo (by decide) hz ?_
      k_updF
      rw [show (1 : Int).toNat = 1 from rfl, h45]
      cases ng with
      | true =>
        refine WP.brT rfl ?_
        k_updF
        exact ⟨rfl, rfl⟩
      | false =>
        refine WP.brF rfl ?_
        k_updF
        exact ⟨rfl, rfl⟩
    rintro σ' H6 ⟨rfl, rfl⟩
    k_updF
    exact ⟨WP.sz (show 2 ≤ 1000000 by decide), fun q hq => kS q _ (e1.trans (WP.same_new hq)) upd_same⟩
  ))) only [D.box_eq]
end
abbrev s__law_taken : Stmt := top 53
abbrev N__law_taken : List Str := ["rows", "at", "peek", "deed", "bound"]
theorem sc__law_taken : FnScope N__law_taken ["rows", "at", "peek", "deed", "bound"] (defScope s__law_taken) := ⟨rfl, rfl, rfl, by decide +kernel, rfl, by decide +kernel, by decide +kernel⟩
def sp__law_taken (K : PySem.W.Frag) (mg : WP.MG) : Sp := fun vs H Q _ => ∃ (L : Addr) (rs : List (Nat × Tk)) (n D : Nat) (bound : Int), vs = [.ref L, .int (n : Int), .str (SX.S (nxt rs n false)), .int (D : Int), .int bound] ∧ RtL K H L rs ∧ RsOk rs ∧ n ≤ rs.length ∧ 6 ≤ D ∧ D ≤ 10 ∧ DueQ K H Q (takX rs n D bound)
section
variable {P : Program} {w : World} {K : PySem.W.Frag} {mg : Str → Option Value} {base : Heap}
theorem ok__law_taken {f : Addr} {fd : FuncData} (F : Fun K "_law_taken" "_law_taken" s__law_taken f fd) (B : Blt w K mg) (c__law_refused : WP.Callee P w K mg base CX0 2 "_law_refused" ["rows", "at", "reason"] (sp__law_refused K mg)) (c__law_is_name : WP.Callee P w K mg base CX0 2 "_law_is_name" ["word"] (sp__law_is_name K mg)) (c__law_integer : WP.Callee P w K mg base CX0 3 "_law_integer" ["rows", "at", "peek", "least", "greatest"] (sp__law_integer K mg)) (c__law_parse : WP.Callee P w K mg base CX0 2 "_law_parse" ["word"] (sp__law_parse K mg)) : FnOk P w K mg base CX0 4 f fd ["rows", "at", "peek", "deed", "bound"] (sp__law_taken K mg) := by
  show D.Box _
  simp (discharger := (with_unfolding_all (
  refine F.ok sc__law_taken (fun vs H Q E h => ?_) (fun cdv A outer s H vs Q E hr h => ?_)
  · first | (obtain ⟨_, rfl, _⟩ := h; rfl) | (obtain ⟨_, _, rfl, _⟩ := h; rfl) | (obtain ⟨_, _, _, rfl, _⟩ := h; rfl) | (obtain ⟨_, _, _, _, rfl, _⟩ := h; rfl) | (obtain ⟨_, _, _, _, _, rfl, _⟩ := h; rfl) | (obtain ⟨_, _, _, _, _, _, rfl, _⟩ := h; rfl) | (obtain ⟨_, _, _, _, _, _, _, rfl, _⟩ := h; rfl) | (obtain ⟨_, _, _, _, _, _, _, _, rfl, _⟩ := h; rfl) | (obtain ⟨rfl, _⟩ := h; rfl)
  · obtain ⟨L, rs, n, D, bound, rfl, ht, ok, hn, d1, d2, k⟩ := h
    refine ⟨_, (Evl.pss_cut (ps_if (PW.pt (pw_and (pt_cmpR op_eq (pv 3) pe_int (nomark _)) (pw_and1 (pt_val (WP.pe_callC c__law_is_name hr rfl pass0 (WP.pa_consN (pv 2) pa_nil)))))) (pss_one (ps_ret (pe_tup (WP.pa_consN (pe_tup (WP.pa_consN (WP.pe_strL [118, 97, 108, 117, 101] (by decide +kernel)) (WP.pa_consN (pv 2) pa_nil))) (WP.pa_consN (pe_op op_add (pv 1) pe_int) pa_nil))))) pss_nil)
      (pss_cons (ps_if (pt_cmpR op_eq (pv 3) pe_int (nomark _)) (pss_one (ps_ret (WP.pe_callC c__law_integer hr rfl pass0 (WP.pa_consN (pv 0) (WP.pa_consN (pv 1) (WP.pa_consN (pv 2) (WP.pa_consN pe_int (WP.pa_consN (pv 4) pa_nil)))))))) pss_nil)
      (pss_cons (ps_if (pt_cmpR op_eq (pv 3) pe_int (nomark _)) (pss_one (ps_ret (WP.pe_callC c__law_integer hr rfl pass0 (WP.pa_consN (pv 0) (WP.pa_consN (pv 1) (WP.pa_consN (pv 2) (WP.pa_consN pe_int (WP.pa_consN (pv 4) pa_nil)))))))) pss_nil)
      (Evl.pss_cut (ps_if (PW.pt (pw_and (pt_cmpR op_eq (pv 3) pe_int (nomark _)) (pw_and1 (PW.pt (pw_or (PW.pt (pw_and (pt_cmpR WP.op_in01 (pe_slice sl_str (pv 2) po_none (po_some pe_int)) (WP.pe_strL [48, 49, 50, 51, 52, 53, 54, 55, 56, 57] (by decide +kernel)) rfl) (pw_and1 (pt_cmpR op_ne (pv 2) (WP.pe_strL [] (by decide +kernel)) (nomark _))))) (pw_or1 (PW.pt (pw_and (pt_cmpR op_gt (pe_callB WP.c_len (by rfl) B.b_len (by decide +kernel) (WP.pa_consN (pv 2) pa_nil)) pe_int (nomark _)) (pw_and1 (pt_cmpR op_eq (pe_ix ix_str (pv 2) pe_int (fun _ _ => rfl)) (WP.pe_strL [45] (by decide +kernel)) (nomark _))))))))))) (pss_cons (ps_if (pt_cmpR op_isN (WP.pe_callC c__law_parse hr rfl pass0 (WP.pa_consN (pv 2) pa_nil)) pe_non (nomark _)) (pss_one (ps_ret (WP.pe_callC c__law_refused hr rfl pass0 (WP.pa_consN (pv 0) (WP.pa_consN (pv 1) (WP.pa_consN (WP.pe_strL [118, 97, 108, 117, 101] (by decide +kernel)) pa_nil)))))) pss_nil)
      (pss_one (ps_ret (pe_tup (WP.pa_consN (pe_tup (WP.pa_consN (WP.pe_strL [118, 97, 108, 117, 101] (by decide +kernel)) (WP.pa_consN (WP.pe_callC c__law_parse hr rfl pass0 (WP.pa_consN (pv 2) pa_nil)) pa_nil))) (WP.pa_consN (pe_op op_add (pv 1) pe_int) pa_nil)))))) pss_nil)
      (pss_cons (ps_if (PW.pt (pw_and (pt_cmpR op_eq (pv 3) pe_int (nomark _)) (pw_and (pt_cmpR op_lt (pv 1) (pe_callB WP.c_len (by rfl) B.b_len (by decide +kernel) (WP.pa_consN (pv 0) pa_nil)) (nomark _)) (pw_and1 (pt_cmpR op_eq (pe_ix ix_tup (pe_ix ix_list (pv 0) (pv 1) (fun _ _ => rfl)) pe_int (fun _ _ => rfl)) (WP.pe_strL [115, 116, 114, 105, 110, 103] (by decide +kernel)) (nomark _)))))) (pss_cons (ps_if (PW.pt (pw_or (pt_cmpR op_lt (pe_callB WP.c_len (by rfl) B.b_len (by decide +kernel) (WP.pa_consN (pe_ix ix_tup (pe_ix ix_list (pv 0) (pv 1) (fun _ _ => rfl)) pe_int (fun _ _ => rfl)) pa_nil)) pe_int (nomark _)) (pw_or1 (pt_cmpR op_gt (pe_callB WP.c_len (by rfl) B.b_len (by decide +kernel) (WP.pa_consN (pe_ix ix_tup (pe_ix ix_list (pv 0) (pv 1) (fun _ _ => rfl)) pe_int (fun _ _ => rfl)) pa_nil)) pe_int (nomark _))))) (pss_one (ps_ret (WP.pe_callC c__law_refused hr rfl pass0 (WP.pa_consN (pv 0) (WP.pa_consN (pv 1) (WP.pa_consN (WP.pe_strL [118, 97, 108, 117, 101] (by decide +kernel)) pa_nil)))))) pss_nil)
      (pss_one (ps_ret (pe_tup (WP.pa_consN (pe_tup (WP.pa_consN (WP.pe_strL [118, 97, 108, 117, 101] (by decide +kernel)) (WP.pa_consN (pe_ix ix_tup (pe_ix ix_list (pv 0) (pv 1) (fun _ _ => rfl)) pe_int (fun _ _ => rfl)) pa_nil))) (WP.pa_consN (pe_op op_add (pv 1) pe_int) pa_nil)))))) pss_nil)
      (pss_one (ps_ret (WP.pe_callC c__law_refused hr rfl pass0 (WP.pa_consN (pv 0) (WP.pa_consN (pv 1) (WP.pa_consN (WP.pe_strL [119, 111, 114, 100] (by decide +kernel)) pa_nil))))))))))), ?_⟩
    have hw := ok.nx n false
    have hz : (nxt rs n false).length ≤ sizeLine := by rw [sizeLine_eq]; omega
    have val : ∀ (v : V) (H1 : Hp), Same H H1 → takX rs n D bound = (.val v, n + 1) → [V.str (SX.S [118, 97, 108, 117, 101]), v].length ≤ sizeLine ∧ ∀ p, H1 p = none → tCons (tOp (rI0 fun i j => V.int (i + j)) (tVar 1) (tC (V.int 1))) tNil [some (V.ref L), some (V.int n), some (V.str (SX.S (nxt rs n false))), some (V.int D), some (V.int bound)] (upd H1 p (.tup [V.str (SX.S [118, 97, 108, 117, 101]), v])) fun ys H2 => (V.ref p :: ys).length ≤ sizeLine ∧ ∀ t, H2 t = none → Q (.ref t) (upd H2 t (.tup (V.ref p :: ys))) := fun v H1 e1 ek => by
      rw [ek] at k
      refine ⟨WP.sz (show 2 ≤ 1000000 by decide), fun p hp => ?_⟩
      have e2 := WP.same_new (o := .tup [V.str (SX.S [118, 97, 108, 117, 101]), v]) hp
      have g1 : upd H1 p (.tup [V.str (SX.S [118, 97, 108, 117, 101]), v]) p = _ := upd_same
      generalize upd H1 p _ = H2 at e2 g1 ⊢
      k_updF
      refine ⟨WP.sz (show 2 ≤ 1000000 by decide), fun t hq => ?_⟩
      have e3 := WP.same_new (o := .tup [.ref p, .int ((n : Int) + 1)]) hq
      exact k t p _ ((e1.trans e2).trans e3) (SqT.of upd_same) (SqT.of (e3 _ _ g1))
    have ref : ∀ (w : List Nat) (H1 : Hp), Same H H1 → takX rs n D bound = refX rs n w → sp__law_refused K mg [.ref L, .int (n : Int), .str (SX.S w)] H1 Q E := fun w H1 e1 ek => by
      rw [ek] at k
      exact ⟨L, rs, n, w, rfl, ht.same e1, ok.z, hn, fun t p H' e2 h1 h2 => k t p H' (e1.trans e2) h1 h2⟩
    refine WP.cut (fun σ' H' => Same H H' ∧ σ' = [some (V.ref L), some (V.int n), some (V.str (SX.S (nxt rs n false))), some (V.int D), some (V.int bound)] ∧ (D = 6 → MW.nameB (nxt rs n false) = false)) ?_ ?_
    · k_updF
      by_cases c6 : D = 6
      · refine WP.brT (decide_eq_true (by omega)) ?_
        k_updF
        refine ⟨_, rfl, hw.1, fun H1 e1 => ?_⟩
        k_updF
        rcases Bool.eq_false_or_eq_true (MW.nameB (nxt rs n false)) with he | he
        · refine WP.brT he ?_
          k_updF
          refine val _ H1 e1 ?_
          unfold takX
          rw [if_pos c6, if_pos he]
        · refine WP.brF he ?_
          k_updF
          exact ⟨e1, rfl, fun _ => he⟩
      · refine WP.brF (decide_eq_false (by omega)) ?_
        refine WP.brF rfl ?_
        k_updF
        exact ⟨fun _ _ z => z, rfl, fun z => absurd z c6⟩
    rintro σ' H1 ⟨e1, rfl, h6⟩
    k_updF
    by_cases c7 : D = 7
    · refine WP.brT (decide_eq_true (by omega)) ?_
      k_updF
      refine ⟨L, rs, n, _, 0, bound, rfl, ht.same e1, ok.z, hn, hw.1, ?_⟩
      have : takX rs n D bound = intX rs n (nxt rs n false) 0 bound := by unfold takX; rw [if_neg (by omega), if_pos c7]
      rw [this] at k
      exact fun t p H' e2 h1 h2 => k t p H' (e1.trans e2) h1 h2
    refine WP.brF (decide_eq_false (by omega)) ?_
    k_updF
    by_cases c8 : D = 8
    · refine WP.brT (decide_eq_true (by omega)) ?_
      k_updF
      refine ⟨L, rs, n, _, 7, bound, rfl, ht.same e1, ok.z, hn, hw.1, ?_⟩
      have : takX rs n D bound = intX rs n (nxt rs n false) 7 bound := by unfold takX; rw [if_neg (by omega), if_neg c7, if_pos c8]
      rw [this] at k
      exact fun t p H' e2 h1 h2 => k t p H' (e1.trans e2) h1 h2
    refine WP.brF (decide_eq_false (by omega)) ?_
    k_updF
    refine WP.cut (fun σ' H' => Same H H' ∧ σ' = [some (V.ref L), some (V.int n), some (V.str (SX.S (nxt rs n false))), some (V.int D), some (V.int bound)] ∧ (D = 9 → numB (nxt rs n false) = false)) ?_ ?_
    · by_cases c9 : D = 9
      rotate_left
      · k_updF
        refine WP.brF (decide_eq_false (by omega)) ?_
        refine WP.brF rfl ?_
        k_updF
        exact ⟨e1, rfl, fun z => absurd z c9⟩
      have tk9 : takX rs n D bound = (if numB (nxt rs n false) = true then (match MT.spell (nxt rs n false) with | some (u, s) => (.dec u s, n + 1) | none => refX rs n kVALU) else refX rs n kWORD) := by
        unfold takX; rw [if_neg (by omega), if_neg (by omega), if_neg (by omega), if_pos c9] <;> rfl
      generalize hW : nxt rs n false = W at *
      k_updF
      refine WP.brT (decide_eq_true (by omega)) ?_
      k_updF
      refine WP.slTo (by decide) hz ?_
      rw [show (1 : Int).toNat = 1 from rfl]
      have yes : ∀ G : Prop, G → G := fun _ g => g
      cases W with
      | nil =>
        rw [show ([] : List Nat).take 1 = [] from rfl]
        k_updF
        refine WP.in0 (l := [48, 49, 50, 51, 52, 53, 54, 55, 56, 57]) (by decide +kernel) ?_
        k_updF
        refine WP.brT rfl ?_
        k_updF
        refine WP.brF rfl ?_
        k_updF
        refine WP.lenS' (l := []) hz ?_
        k_updF
        refine WP.brF rfl ?_
        refine WP.brF rfl ?_
        k_updF
        exact ⟨e1, rfl, fun _ => rfl⟩
      | cons c r =>
        have fg : MW.figs ((c :: r).take 1) = decide (c ∈ MW.FIG) := by
          show (!decide ([c] = []) && (decide (c ∈ MW.FIG) && true)) = _
          rw [Bool.and_true]; rfl
        have nb : numB (c :: r) = (decide (c ∈ MW.FIG) || (decide (c = 45) && decide (1 < (c :: r).length))) := by
          unfold numB
          rw [fg]
          congr 2
          exact decide_eq_decide.mpr ⟨fun z => by injection z, fun z => by rw [z]; rfl⟩
        rw [show (c :: r).take 1 = [c] from rfl]
        k_updF
        refine WP.in1 (l := MW.FIG) ?_
        k_updF
        by_cases cF : c ∈ MW.FIG
        · have e9 : numB (c :: r) = true := by rw [nb, decide_eq_true cF]; rfl
          refine WP.brT (decide_eq_true cF) ?_
          k_updF
          refine WP.brT rfl ?_
          refine WP.brT rfl ?_
          rw [if_pos e9] at tk9
          k_updF
          refine ⟨_, rfl, hw.1, fun en H2 e2 => ?_, fun u s en p0 H2 e2 hp0 => ?_⟩
          · k_updF
            refine ⟨rfl, ?_⟩
            k_updF
            refine WP.brT rfl ?_
            k_updF
            exact ref kVALU H2 (e1.trans e2) (by rw [tk9, en])
          · k_updF
            refine ⟨rfl, ?_⟩
            k_updF
            refine WP.brF rfl ?_
            k_updF
            refine ⟨_, rfl, hw.1, (fun en' => by rw [en] at en'; cases en'), fun u' s' en' p1 H3 e3 hp1 => ?_⟩
            rw [en'] at tk9
            rw [tk9] at k
            k_updF
            refine ⟨WP.sz (show 2 ≤ 1000000 by decide), fun p hp => ?_⟩
            have e4 := WP.same_new (o := .tup [.str (SX.S kVALU), .ref p1]) hp
            have g1 : upd H3 p (.tup [.str (SX.S kVALU), .ref p1]) p = _ := upd_same
            have hp1 := e4 _ _ hp1
            k_updF
            refine ⟨WP.sz (show 2 ≤ 1000000 by decide), fun t hq => ?_⟩
            have e5 := WP.same_new (o := .tup [.ref p, .int ((n : Int) + 1)]) hq
            exact k t p _ ((((e1.trans e2).trans e3).trans e4).trans e5) (SqT.of upd_same) ⟨p1, SqT.of (e5 _ _ g1), SqT.of (e5 _ _ hp1)⟩
        · refine WP.brF (decide_eq_false cF) ?_
          refine WP.brF rfl ?_
          k_updF
          refine WP.lenS' hz ?_
          k_updF
          by_cases c2 : 1 < (c :: r).length
          · refine WP.brT (decide_eq_true (by omega)) ?_
            k_updF
            refine WP.ixS1 (c := c) (atI_nat (j := 0) rfl) hz ?_
            k_updF
            rw [show decide ([c] = [45]) = decide (c = 45) from decide_eq_decide.mpr ⟨fun h => by injection h, fun h => by rw [h]⟩]
            by_cases c45 : c = 45
            · have e9 : numB (c :: r) = true := by rw [nb, decide_eq_true c45, decide_eq_true c2, Bool.and_self, Bool.or_true]
              refine WP.brT (decide_eq_true c45) ?_
              rw [if_pos e9] at tk9
              k_updF
              refine ⟨_, rfl, hw.1, fun en H2 e2 => ?_, fun u s en p0 H2 e2 hp0 => ?_⟩
              · k_updF
                refine ⟨rfl, ?_⟩
                k_updF
                refine WP.brT rfl ?_
                k_updF
                exact ref kVALU H2 (e1.trans e2) (by rw [tk9, en])
              · k_updF
                refine ⟨rfl, ?_⟩
                k_updF
                refine WP.brF rfl ?_
                k_updF
                refine ⟨_, rfl, hw.1, (fun en' => by rw [en] at en'; cases en'), fun u' s' en' p1 H3 e3 hp1 => ?_⟩
                rw [en'] at tk9
                rw [tk9] at k
                k_updF
                refine ⟨WP.sz (show 2 ≤ 1000000 by decide), fun p hp => ?_⟩
                have e4 := WP.same_new (o := .tup [.str (SX.S kVALU), .ref p1]) hp
                have g1 : upd H3 p (.tup [.str (SX.S kVALU), .ref p1]) p = _ := upd_same
                have hp1 := e4 _ _ hp1
                k_updF
                refine ⟨WP.sz (show 2 ≤ 1000000 by decide), fun t hq => ?_⟩
                have e5 := WP.same_new (o := .tup [.ref p, .int ((n : Int) + 1)]) hq
                exact k t p _ ((((e1.trans e2).trans e3).trans e4).trans e5) (SqT.of upd_same) ⟨p1, SqT.of (e5 _ _ g1), SqT.of (e5 _ _ hp1)⟩
            · refine WP.brF (decide_eq_false c45) ?_
              k_updF
              exact ⟨e1, rfl, fun _ => by rw [nb, decide_eq_false cF, decide_eq_false c45]; rfl⟩
          · refine WP.brF (decide_eq_false (by omega)) ?_
            refine WP.brF rfl ?_
            k_updF
            exact ⟨e1, rfl, fun _ => by rw [nb, decide_eq_false cF, decide_eq_false c2, Bool.and_false]; rfl⟩
    rintro σ' H1 ⟨e1, rfl, h9⟩
    have tkL : D = 10 ∨ takX rs n D bound = refX rs n kWORD := by
      rcases (show D = 6 ∨ D = 9 ∨ D = 10 by omega) with z | z | z
      · refine .inr ?_
        unfold takX
        rw [if_pos z, if_neg (by rw [h6 z]; decide)]
      · refine .inr ?_
        unfold takX
        rw [if_neg (by omega), if_neg (by omega), if_neg (by omega), if_pos z, if_neg (by rw [h9 z]; decide)]
      · exact .inl z
    k_updF
    by_cases c10 : D = 10
    rotate_left
    · refine WP.brF (decide_eq_false (by omega)) ?_
      refine WP.brF rfl ?_
      k_updF
      exact ref kWORD H1 e1 (tkL.resolve_left c10)
    have tkT : takX rs n D bound = (if nxt rs n false ≠ [] then refX rs n kWORD
      else if 1 ≤ (nxt rs n true).length ∧ (nxt rs n true).length ≤ 80 then (.val (.str (SX.S (nxt rs n true))), n + 1) else refX rs n kVALU) := by
      unfold takX; rw [if_neg (by omega), if_neg (by omega), if_neg (by omega), if_neg (by omega)]
    refine WP.brT (decide_eq_true (by omega)) ?_
    have ht1 := ht.same e1
    obtain ⟨xs, hL, hlen⟩ := ht1.len
    k_updF
    refine WP.lenL hL ?_
    rw [hlen]
    k_updF
    by_cases cE : n < rs.length
    rotate_left
    · refine WP.brF (decide_eq_false (by omega)) ?_
      refine WP.brF rfl ?_
      k_updF
      refine ref kWORD H1 e1 ?_
      have e0 : n = rs.length := by omega
      rw [tkT, refX_end e0 kVALU kWORD]
      split
      · rfl
      · rw [if_neg (by rw [e0, nxt_end]; decide)]
    refine WP.brT (decide_eq_true (by omega)) ?_
    obtain ⟨⟨r, b, q⟩, htk⟩ : ∃ t, rs[n]? = some t := ⟨_, List.getElem?_eq_getElem cE⟩
    obtain ⟨ys, a, hL2, hb, hq⟩ := ht1.tok htk
    have hq : SqT K H1 a [.int (r : Int), .str (SX.S (kwd b)), .str (SX.S q)] := by cases b <;> exact hq
    have nf : nxt rs n false = if b = false then q else [] := by unfold nxt; rw [htk]
    have nt : nxt rs n true = if b = true then q else [] := by unfold nxt; rw [htk]
    k_updF
    refine WP.ixL hL2 (atI_nat hb) ?_
    k_updF
    refine WP.ixT hq WP.at1 ?_
    k_updF
    cases b with
    | false =>
      refine WP.brF (decide_eq_false (by decide)) ?_
      k_updF
      refine ref kWORD H1 e1 ?_
      rw [tkT, if_pos]
      rw [nf, if_pos rfl]
      intro z
      have := ok.e _ (List.mem_of_getElem? htk) z
      cases this
    | true =>
      rw [if_neg (by decide)] at nf
      rw [if_pos rfl] at nt
      rw [nf, nt, if_neg (fun z => z rfl)] at tkT
      refine WP.brT (decide_eq_true (by decide)) ?_
      have hql := (ok.l _ (List.mem_of_getElem? htk)).1
      have hzq : q.length ≤ sizeLine := by rw [sizeLine_eq]; exact Nat.le_trans hql (by decide)
      k_updF
      refine WP.ixL hL2 (atI_nat hb) ?_
      k_updF
      refine WP.ixT hq WP.at2 ?_
      k_updF
      refine WP.lenS' hzq ?_
      k_updF
      by_cases l1 : 1 ≤ q.length
      rotate_left
      · refine WP.brT (decide_eq_true (by omega)) ?_
        refine WP.brT rfl ?_
        k_updF
        exact ref kVALU H1 e1 (by rw [tkT, if_neg (fun z => l1 z.1)])
      refine WP.brF (decide_eq_false (by omega)) ?_
      k_updF
      refine WP.ixL hL2 (atI_nat hb) ?_
      k_updF
      refine WP.ixT hq WP.at2 ?_
      k_updF
      refine WP.lenS' hzq ?_
      k_updF
      by_cases l2 : q.length ≤ 80
      rotate_left
      · refine WP.brT (decide_eq_true (by omega)) ?_
        k_updF
        exact ref kVALU H1 e1 (by rw [tkT, if_neg (fun z => l2 z.2)])
      refine WP.brF (decide_eq_false (by omega)) ?_
      k_updF
      refine WP.ixL hL2 (atI_nat hb) ?_
      k_updF
      refine WP.ixT hq WP.at2 ?_
      k_updF
      exact val _ H1 e1 (by rw [tkT, if_pos ⟨l1, l2⟩])
  ))) only [D.box_eq]
end
abbrev s__law_due : Stmt := top 54
abbrev N__law_due : List Str := ["rows", "at", "deed", "words", "bound", "peek", "word"]
theorem sc__law_due : FnScope N__law_due ["rows", "at", "deed", "words", "bound"] (defScope s__law_due) := ⟨rfl, rfl, rfl, by decide +kernel, rfl, by decide +kernel, by decide +kernel⟩
def sp__law_due (K : PySem.W.Frag) (mg : WP.MG) : Sp := fun vs H Q _ => ∃ (L W : Addr) (rs : List (Nat × Tk)) (n D : Nat) (bound : Int) (ws : List (List Nat)), vs = [.ref L, .int (n : Int), .int (D : Int), .ref W, .int bound] ∧ RtL K H L rs ∧ RsOk rs ∧ n ≤ rs.length ∧ D ≤ 10 ∧ SqL K H W (ws.map fun w => .str (SX.S w)) ∧ ws ≠ [] ∧ ws.length ≤ 10 ∧ (∀ w ∈ ws, w ≠ []) ∧ DueQ K H Q (outX rs n D ws bound)
section
variable {P : Program} {w : World} {K : PySem.W.Frag} {mg : Str → Option Value} {base : Heap}
theorem ok__law_due {f : Addr} {fd : FuncData} (F : Fun K "_law_due" "_law_due" s__law_due f fd) (B : Blt w K mg) (c__law_taken : WP.Callee P w K mg base CX0 4 "_law_taken" ["rows", "at", "peek", "deed", "bound"] (sp__law_taken K mg)) (c__law_row : WP.Callee P w K mg base CX0 1 "_law_row" ["rows", "at"] (sp__law_row K mg)) (c__law_refused : WP.Callee P w K mg base CX0 2 "_law_refused" ["rows", "at", "reason"] (sp__law_refused K mg)) : FnOk P w K mg base CX0 5 f fd ["rows", "at", "deed", "words", "bound"] (sp__law_due K mg) := by
  show D.Box _
  simp (discharger := (with_unfolding_all (
  refine F.ok sc__law_due (fun vs H Q E h => ?_) (fun cdv A outer s H vs Q E hr h => ?_)
  · first | (obtain ⟨_, rfl, _⟩ := h; rfl) | (obtain ⟨_, _, rfl, _⟩ := h; rfl) | (obtain ⟨_, _, _, rfl, _⟩ := h; rfl) | (obtain ⟨_, _, _, _, rfl, _⟩ := h; rfl) | (obtain ⟨_, _, _, _, _, rfl, _⟩ := h; rfl) | (obtain ⟨_, _, _, _, _, _, rfl, _⟩ := h; rfl) | (obtain ⟨_, _, _, _, _, _, _, rfl, _⟩ := h; rfl) | (obtain ⟨_, _, _, _, _, _, _, _, rfl, _⟩ := h; rfl) | (obtain ⟨rfl, _⟩ := h; rfl)
  · obtain ⟨L, W, rs, n, D, bound, ws, rfl, ht, ok, hn, hD, hW, wn, wl, wne, k⟩ := h
    refine ⟨_, (pss_cons (ps_set (i := 5) sc__law_due.nd rfl (Or.inl rfl) (WP.pe_strL [] (by decide +kernel)))
      (Evl.pss_cut (ps_if (PW.pt (pw_and (pt_cmpR op_lt (pv 1) (pe_callB WP.c_len (by rfl) B.b_len (by decide +kernel) (WP.pa_consN (pv 0) pa_nil)) (nomark _)) (pw_and1 (pt_cmpR op_eq (pe_ix ix_tup (pe_ix ix_list (pv 0) (pv 1) (fun _ _ => rfl)) pe_int (fun _ _ => rfl)) (WP.pe_strL [119, 111, 114, 100] (by decide +kernel)) (nomark _))))) (pss_one (ps_set (i := 5) sc__law_due.nd rfl (Or.inl rfl) (pe_ix ix_tup (pe_ix ix_list (pv 0) (pv 1) (fun _ _ => rfl)) pe_int (fun _ _ => rfl)))) pss_nil)
      (pss_cons (ps_if (pt_cmpR op_eq (pv 2) pe_int (nomark _)) (pss_one (ps_ret (pe_tup (WP.pa_consN (pe_tup (WP.pa_consN (WP.pe_strL [118, 97, 108, 117, 101] (by decide +kernel)) (WP.pa_consN (pv 5) pa_nil))) (WP.pa_consN (pv 1) pa_nil))))) pss_nil)
      (pss_cons (ps_if (pt_cmpR op_eq (pv 2) pe_int (nomark _)) (pss_one (ps_ret (pe_tup (WP.pa_consN (pe_tup (WP.pa_consN (WP.pe_strL [118, 97, 108, 117, 101] (by decide +kernel)) (WP.pa_consN (pe_cmpR op_eq (pv 1) (pe_callB WP.c_len (by rfl) B.b_len (by decide +kernel) (WP.pa_consN (pv 0) pa_nil)) (nomark _)) pa_nil))) (WP.pa_consN (pv 1) pa_nil))))) pss_nil)
      (pss_cons (ps_if (pt_cmpR op_eq (pv 2) pe_int (nomark _)) (pss_one (ps_ret (pe_tup (WP.pa_consN (pe_tup (WP.pa_consN (WP.pe_strL [118, 97, 108, 117, 101] (by decide +kernel)) (WP.pa_consN (WP.pe_callC c__law_row hr rfl pass0 (WP.pa_consN (pv 0) (WP.pa_consN (pv 1) pa_nil))) pa_nil))) (WP.pa_consN (pv 1) pa_nil))))) pss_nil)
      (pss_cons (ps_if (pt_cmpR op_eq (pv 2) pe_int (nomark _)) (pss_one (ps_ret (pe_tup (WP.pa_consN (pe_tup (WP.pa_consN (WP.pe_strL [118, 97, 108, 117, 101] (by decide +kernel)) (WP.pa_consN (pe_ix ix_list (pe_lst (WP.pa_consN pe_int (WP.pa_consN (WP.pe_callC c__law_row hr rfl pass0 (WP.pa_consN (pv 0) (WP.pa_consN (pe_op op_sub (pv 1) pe_int) pa_nil))) pa_nil))) (pe_callTy WP.c_int1 (by rfl) B.b_int (by decide +kernel) (WP.pa_consN (pe_cmpR op_gt (pv 1) pe_int (nomark _)) pa_nil)) (fun _ _ => rfl)) pa_nil))) (WP.pa_consN (pv 1) pa_nil))))) pss_nil)
      (pss_cons (ps_if (pt_cmpR op_eq (pv 2) pe_int (nomark _)) (pss_one (ps_ret (pe_tup (WP.pa_consN (pe_tup (WP.pa_consN (WP.pe_strL [118, 97, 108, 117, 101] (by decide +kernel)) (WP.pa_consN (pe_cmpR op_eq (pv 5) (pe_ix ix_list (pv 3) pe_int (fun _ _ => rfl)) (nomark _)) pa_nil))) (WP.pa_consN (pe_op op_add (pv 1) (pe_callTy WP.c_int1 (by rfl) B.b_int (by decide +kernel) (WP.pa_consN (pe_cmpR op_eq (pv 5) (pe_ix ix_list (pv 3) pe_int (fun _ _ => rfl)) (nomark _)) pa_nil))) pa_nil))))) pss_nil)
      (pss_cons (ps_if (pt_cmpR op_eq (pv 2) pe_int (nomark _)) (pss_cons (ps_for PassesOwn.never rfl (pi_list (pv 3)) (pg_name (i := 6) sc__law_due.nd rfl (Or.inl rfl)) (pss_cons (ps_if (PW.pt (pw_or (pt_cmpR op_eq (pv 1) (pe_callB WP.c_len (by rfl) B.b_len (by decide +kernel) (WP.pa_consN (pv 0) pa_nil)) (nomark _)) (pw_or (pt_cmpR op_eq (pe_ix ix_tup (pe_ix ix_list (pv 0) (pv 1) (fun _ _ => rfl)) pe_int (fun _ _ => rfl)) (WP.pe_strL [115, 116, 114, 105, 110, 103] (by decide +kernel)) (nomark _)) (pw_or1 (pt_cmpR op_ne (pe_ix ix_tup (pe_ix ix_list (pv 0) (pv 1) (fun _ _ => rfl)) pe_int (fun _ _ => rfl)) (pv 6) (nomark _)))))) (pss_one (ps_ret (WP.pe_callC c__law_refused hr rfl pass0 (WP.pa_consN (pv 0) (WP.pa_consN (pv 1) (WP.pa_consN (WP.pe_strL [119, 111, 114, 100] (by decide +kernel)) pa_nil)))))) pss_nil)
      (pss_one (ps_set (i := 1) sc__law_due.nd rfl (Or.inl rfl) (pe_op op_add (pv 1) pe_int)))))
      (pss_one (ps_ret (pe_tup (WP.pa_consN (pe_tup (WP.pa_consN (WP.pe_strL [118, 97, 108, 117, 101] (by decide +kernel)) (WP.pa_consN pe_non pa_nil))) (WP.pa_consN (pv 1) pa_nil)))))) pss_nil)
      (pss_one (ps_ret (WP.pe_callC c__law_taken hr rfl pass0 (WP.pa_consN (pv 0) (WP.pa_consN (pv 1) (WP.pa_consN (pv 5) (WP.pa_consN (pv 2) (WP.pa_consN (pv 4) pa_nil)))))))))))))))), ?_⟩
    k_updF
    have fin : ∀ (v : V) (m : Nat) (mi : Int) (p : Addr) (H2 : Hp), Same H H2 → H2 p = some (.tup [V.str (SX.S [118, 97, 108, 117, 101]), v]) → mi = (m : Int) → outX rs n D ws bound = (.val v, m) → [V.ref p, V.int mi].length ≤ sizeLine ∧ ∀ t, H2 t = none → Q (.ref t) (upd H2 t (.tup [V.ref p, V.int mi])) := fun v m mi p H2 e2 g em ek => by
      rw [ek] at k
      subst em
      refine ⟨WP.sz (show 2 ≤ 1000000 by decide), fun t hq => ?_⟩
      have e3 := WP.same_new (o := .tup [.ref p, .int (m : Int)]) hq
      exact k t p _ (e2.trans e3) (SqT.of upd_same) (SqT.of (e3 _ _ g))
    obtain ⟨xs, hL, hlen⟩ := ht.len
    refine WP.cut (fun σ' H' => H' = H ∧ σ' = [some (V.ref L), some (V.int n), some (V.int D), some (V.ref W), some (V.int bound), some (V.str (SX.S (nxt rs n false))), none]) ?_ ?_
    · k_updF
      refine WP.lenL hL ?_
      rw [hlen]
      k_updF
      by_cases cE : n < rs.length
      · refine WP.brT (decide_eq_true (by omega)) ?_
        obtain ⟨⟨r, b, q⟩, htk⟩ : ∃ t, rs[n]? = some t := ⟨_, List.getElem?_eq_getElem cE⟩
        obtain ⟨ys, a, hL2, hb, hq⟩ := ht.tok htk
        have hq : SqT K H a [.int (r : Int), .str (SX.S (kwd b)), .str (SX.S q)] := by cases b <;> exact hq
        have nf : nxt rs n false = if b = false then q else [] := by unfold nxt; rw [htk]
        k_updF
        refine WP.ixL hL2 (atI_nat hb) ?_
        k_updF
        refine WP.ixT hq WP.at1 ?_
        k_updF
        cases b with
        | false =>
          refine WP.brT (decide_eq_true (by decide)) ?_
          k_updF
          refine WP.ixL hL2 (atI_nat hb) ?_
          k_updF
          refine WP.ixT hq WP.at2 ?_
          k_updF
          rw [nf, if_pos rfl]
          exact ⟨rfl, rfl⟩
        | true =>
          refine WP.brF (decide_eq_false (by decide)) ?_
          k_updF
          rw [nf, if_neg (by decide)]
          exact ⟨rfl, rfl⟩
      · refine WP.brF (decide_eq_false (by omega)) ?_
        refine WP.brF rfl ?_
        k_updF
        rw [show n = rs.length by omega, nxt_end]
        exact ⟨rfl, rfl⟩
    rintro σ' H' ⟨rfl, rfl⟩
    k_updF
    have cs := (show D = 0 ∨ D = 1 ∨ D = 2 ∨ D = 3 ∨ D = 4 ∨ D = 5 ∨ 6 ≤ D by omega)
    rcases cs with c | c | c | c | c | c | c
    · refine WP.brT (decide_eq_true (by omega)) ?_
      k_updF
      refine ⟨WP.sz (show 2 ≤ 1000000 by decide), fun p hp => ?_⟩
      k_updF
      exact fin _ n _ p _ (WP.same_new hp) upd_same rfl (by unfold outX; rw [if_pos c])
    · refine WP.brF (decide_eq_false (by omega)) ?_
      k_updF
      refine WP.brT (decide_eq_true (by omega)) ?_
      k_updF
      refine WP.lenL hL ?_
      rw [hlen]
      k_updF
      refine ⟨WP.sz (show 2 ≤ 1000000 by decide), fun p hp => ?_⟩
      k_updF
      exact fin _ n _ p _ (WP.same_new hp) upd_same rfl (by unfold outX; rw [if_neg (by omega), if_pos c, show decide (n = rs.length) = decide ((n : Int) = (rs.length : Int)) from decide_eq_decide.mpr ⟨fun z => by omega, fun z => by omega⟩])
    · refine WP.brF (decide_eq_false (by omega)) ?_
      k_updF
      refine WP.brF (decide_eq_false (by omega)) ?_
      k_updF
      refine WP.brT (decide_eq_true (by omega)) ?_
      k_updF
      refine ⟨L, rs, n, rfl, ht, ok.z, by omega, fun m hm => ?_, fun z => by omega⟩
      obtain rfl : n = m := Int.ofNat.inj hm
      k_updF
      refine ⟨WP.sz (show 2 ≤ 1000000 by decide), fun p hp => ?_⟩
      k_updF
      exact fin _ n _ p _ (WP.same_new hp) upd_same rfl (by unfold outX; rw [if_neg (by omega), if_neg (by omega), if_pos c])
    · refine WP.brF (decide_eq_false (by omega)) ?_
      k_updF
      refine WP.brF (decide_eq_false (by omega)) ?_
      k_updF
      refine WP.brF (decide_eq_false (by omega)) ?_
      k_updF
      refine WP.brT (decide_eq_true (by omega)) ?_
      k_updF
      refine ⟨L, rs, _, rfl, ht, ok.z, by omega, fun m hm => ?_, fun z r => ?_⟩
      · have hm1 : n = m + 1 := by omega
        k_updF
        refine ⟨WP.sz (show 2 ≤ 1000000 by decide), fun l1 hl1 => ?_⟩
        have e1 := WP.same_new (o := .lst [.int 1, .int (rowC rs m : Nat)]) hl1
        have g1 : upd H' l1 (.lst [.int 1, .int (rowC rs m : Nat)]) l1 = _ := upd_same
        k_updF
        refine WP.intB ?_
        rw [if_pos (decide_eq_true (show (0 : Int) < (n : Int) by omega))]
        k_updF
        refine WP.ixL (SqL.of g1) WP.at1 ?_
        k_updF
        refine ⟨WP.sz (show 2 ≤ 1000000 by decide), fun p hp => ?_⟩
        k_updF
        refine fin _ n _ p _ (e1.trans (WP.same_new hp)) upd_same rfl ?_
        unfold outX
        rw [if_neg (by omega), if_neg (by omega), if_neg (by omega), if_pos c]
        unfold rowB
        rw [if_pos (by omega), show n - 1 = m by omega]
        have hmn : m < rs.length := by omega
        unfold rowC
        rw [if_neg (fun z => by rw [z] at hmn; exact absurd hmn (Nat.not_lt_zero _)), show min m (rs.length - 1) = m by omega]
      · have hn0 : n = 0 := by omega
        k_updF
        refine ⟨WP.sz (show 2 ≤ 1000000 by decide), fun l1 hl1 => ?_⟩
        have e1 := WP.same_new (o := .lst [.int 1, .int r]) hl1
        have g1 : upd H' l1 (.lst [.int 1, .int r]) l1 = _ := upd_same
        k_updF
        refine WP.intB ?_
        rw [if_neg (by rw [decide_eq_false (show ¬ (0 : Int) < (n : Int) by omega)]; exact Bool.false_ne_true)]
        k_updF
        refine WP.ixL (SqL.of g1) WP.at0 ?_
        k_updF
        refine ⟨WP.sz (show 2 ≤ 1000000 by decide), fun p hp => ?_⟩
        k_updF
        refine fin _ n _ p _ (e1.trans (WP.same_new hp)) upd_same rfl ?_
        unfold outX
        rw [if_neg (by omega), if_neg (by omega), if_neg (by omega), if_pos c]
        unfold rowB
        rw [if_neg (by omega)]
        rfl
    · refine WP.brF (decide_eq_false (by omega)) ?_
      k_updF
      refine WP.brF (decide_eq_false (by omega)) ?_
      k_updF
      refine WP.brF (decide_eq_false (by omega)) ?_
      k_updF
      refine WP.brF (decide_eq_false (by omega)) ?_
      k_updF
      refine WP.brT (decide_eq_true (by omega)) ?_
      k_updF
      obtain ⟨w0, wr, rfl⟩ := List.exists_cons_of_ne_nil wn
      have oe : outX rs n D (w0 :: wr) bound = (if nxt rs n false = w0 then (.val (.bl true), n + 1) else (.val (.bl false), n)) := by unfold outX; rw [if_neg (by omega), if_neg (by omega), if_neg (by omega), if_neg (by omega), if_pos c]; rfl
      refine WP.ixL hW WP.at0 ?_
      k_updF
      refine ⟨WP.sz (show 2 ≤ 1000000 by decide), fun p hp => ?_⟩
      have e1 := WP.same_new (o := .tup [V.str (SX.S [118, 97, 108, 117, 101]), .bl (decide (nxt rs n false = w0))]) hp
      k_updF
      refine WP.ixL (WP.sql e1 hW) WP.at0 ?_
      k_updF
      refine WP.intB ?_
      k_updF
      by_cases cw : nxt rs n false = w0
      · exact fin _ (n + 1) _ p _ e1 upd_same (by rw [if_pos (decide_eq_true cw)]; rfl) (by rw [oe, if_pos cw, decide_eq_true cw])
      · exact fin _ n _ p _ e1 upd_same (by rw [if_neg (by rw [decide_eq_false cw]; exact Bool.false_ne_true)]; omega) (by rw [oe, if_neg cw, decide_eq_false cw])
    · refine WP.brF (decide_eq_false (by omega)) ?_
      k_updF
      refine WP.brF (decide_eq_false (by omega)) ?_
      k_updF
      refine WP.brF (decide_eq_false (by omega)) ?_
      k_updF
      refine WP.brF (decide_eq_false (by omega)) ?_
      k_updF
      refine WP.brF (decide_eq_false (by omega)) ?_
      k_updF
      refine WP.brT (decide_eq_true (by omega)) ?_
      k_updF
      have oe : outX rs n D ws bound = (if mtc rs n ws = ws.length then (.val .non, n + ws.length) else refX rs (n + mtc rs n ws) kWORD) := by unfold outX; rw [if_neg (by omega), if_neg (by omega), if_neg (by omega), if_neg (by omega), if_neg (by omega), if_pos c]
      refine ⟨W, rfl, ⟨_, hW⟩, for_list (xs := ws.map fun w => V.str (SX.S w)) (fun i σ' H2 => H2 = H' ∧ ∃ z, σ' = [some (V.ref L), some (V.int ((n + i : Nat) : Int)), some (V.int D), some (V.ref W), some (V.int bound), some (V.str (SX.S (nxt rs n false))), z] ∧ n + i ≤ rs.length ∧ mtc rs n ws = i + mtc rs (n + i) (ws.drop i)) ⟨rfl, none, rfl, hn, by rw [Nat.zero_add]; rfl⟩ (fun _ _ _ _ q => by rw [q.1]; exact hW) ?_ ?_⟩
      · rintro i v σ' H2 hv ⟨rfl, z, rfl, hin, hm⟩
        rw [List.getElem?_map] at hv
        obtain ⟨w, hw, rfl⟩ := Option.map_eq_some_iff.mp hv
        have hiw : i < ws.length := (List.getElem?_eq_some_iff.mp hw).1
        have hdr : ws.drop i = w :: ws.drop (i + 1) := by
          rw [List.drop_eq_getElem_cons hiw]
          congr 1
          exact (List.getElem?_eq_some_iff.mp hw).2
        rw [hdr] at hm
        have hm' : mtc rs n ws = i + (if nxt rs (n + i) false = w then mtc rs (n + i + 1) (ws.drop (i + 1)) + 1 else 0) := hm
        have ref : nxt rs (n + i) false ≠ w → sp__law_refused K mg [.ref L, .int ((n + i : Nat) : Int), .str (SX.S kWORD)] H2 Q E := fun ne => by
          rw [if_neg ne] at hm'
          have hm' : mtc rs n ws = i := hm'
          rw [oe, hm', if_neg (by omega)] at k
          exact ⟨L, rs, n + i, kWORD, rfl, ht, ok.z, hin, k⟩
        have wne := wne w (List.mem_of_getElem? hw)
        k_updF
        refine WP.lenL hL ?_
        rw [hlen]
        k_updF
        by_cases cE : n + i = rs.length
        · refine WP.brT (decide_eq_true (by omega)) ?_
          refine WP.brT rfl ?_
          k_updF
          exact ref (by rw [cE, nxt_end]; exact fun z => wne z.symm)
        refine WP.brF (decide_eq_false (by omega)) ?_
        obtain ⟨⟨r, b, q⟩, htk⟩ : ∃ t, rs[n + i]? = some t := ⟨_, List.getElem?_eq_getElem (by omega)⟩
        obtain ⟨ys, a, hL2, hb, hq⟩ := ht.tok htk
        have hq : SqT K H2 a [.int (r : Int), .str (SX.S (kwd b)), .str (SX.S q)] := by cases b <;> exact hq
        have nf : nxt rs (n + i) false = if b = false then q else [] := by unfold nxt; rw [htk]
        k_updF
        refine WP.ixL hL2 (atI_nat hb) ?_
        k_updF
        refine WP.ixT hq WP.at1 ?_
        k_updF
        cases b with
        | true =>
          refine WP.brT (decide_eq_true (by decide)) ?_
          refine WP.brT rfl ?_
          k_updF
          exact ref (by rw [nf, if_neg (by decide)]; exact fun z => wne z.symm)
        | false =>
          rw [if_pos rfl] at nf
          refine WP.brF (decide_eq_false (by decide)) ?_
          k_updF
          refine WP.ixL hL2 (atI_nat hb) ?_
          k_updF
          refine WP.ixT hq WP.at2 ?_
          k_updF
          by_cases cw : q = w
          · refine WP.brF (by rw [decide_eq_true cw]; rfl) ?_
            k_updF
            rw [if_pos (nf.trans cw)] at hm'
            exact ⟨rfl, _, by rw [show ((n + (i + 1) : Nat) : Int) = ((n + i : Nat) : Int) + 1 by omega]; rfl, by omega, by rw [hm', show n + (i + 1) = n + i + 1 by omega]; omega⟩
          · refine WP.brT (by rw [decide_eq_false cw]; rfl) ?_
            k_updF
            exact ref (fun z => cw (nf.symm.trans z))
      · rintro σ' H2 ⟨rfl, z, rfl, hin, hm⟩
        rw [List.length_map] at hin hm
        rw [List.drop_length] at hm
        have hm : mtc rs n ws = ws.length := hm
        rw [List.length_map]
        k_updF
        refine ⟨WP.sz (show 2 ≤ 1000000 by decide), fun p hp => ?_⟩
        k_updF
        exact fin _ (n + ws.length) _ p _ (WP.same_new hp) upd_same rfl (by rw [oe, if_pos hm])
    · refine WP.brF (decide_eq_false (by omega)) ?_
      k_updF
      refine WP.brF (decide_eq_false (by omega)) ?_
      k_updF
      refine WP.brF (decide_eq_false (by omega)) ?_
      k_updF
      refine WP.brF (decide_eq_false (by omega)) ?_
      k_updF
      refine WP.brF (decide_eq_false (by omega)) ?_
      k_updF
      refine WP.brF (decide_eq_false (by omega)) ?_
      k_updF
      refine ⟨L, rs, n, D, bound, rfl, ht, ok, hn, c, hD, ?_⟩
      have oe : outX rs n D ws bound = takX rs n D bound := by unfold outX; rw [if_neg (by omega), if_neg (by omega), if_neg (by omega), if_neg (by omega), if_neg (by omega), if_neg (by omega)]
      rw [oe] at k
      exact k
  ))) only [D.box_eq]
end
abbrev s_Cursor_is_done : Stmt := inClass (top 27) 3
abbrev N_Cursor_is_done : List Str := ["self"]
theorem sc_Cursor_is_done : FnScope N_Cursor_is_done ["self"] (defScope s_Cursor_is_done) := ⟨rfl, rfl, rfl, by decide +kernel, rfl, by decide +kernel, by decide +kernel⟩
def sp_Cursor_is_done (K : PySem.W.Frag) (mg : WP.MG) : Sp := fun vs H Q _ => ∃ (a : Addr) (c : Cu) (n : Nat), vs = [.ref a] ∧ CurA K mg H a c n ∧ Q (.bl (decide (n = c.rs.length))) H
section
variable {P : Program} {w : World} {K : PySem.W.Frag} {mg : Str → Option Value} {base : Heap}
theorem ok_Cursor_is_done {f : Addr} {fd : FuncData} (F : Fun K "is_done" "Cursor.is_done" s_Cursor_is_done f fd) (B : Blt w K mg)  : FnOk P w K mg base CX0 1 f fd ["self"] (sp_Cursor_is_done K mg) := by
  show D.Box _
  simp (discharger := (with_unfolding_all (
  refine F.ok sc_Cursor_is_done (fun vs H Q E h => ?_) (fun cdv A outer s H vs Q E hr h => ?_)
  · first | (obtain ⟨_, rfl, _⟩ := h; rfl) | (obtain ⟨_, _, rfl, _⟩ := h; rfl) | (obtain ⟨_, _, _, rfl, _⟩ := h; rfl) | (obtain ⟨_, _, _, _, rfl, _⟩ := h; rfl) | (obtain ⟨_, _, _, _, _, rfl, _⟩ := h; rfl) | (obtain ⟨_, _, _, _, _, _, rfl, _⟩ := h; rfl) | (obtain ⟨_, _, _, _, _, _, _, rfl, _⟩ := h; rfl) | (obtain ⟨_, _, _, _, _, _, _, _, rfl, _⟩ := h; rfl) | (obtain ⟨rfl, _⟩ := h; rfl)
  · obtain ⟨a, c, n, rfl, h, k⟩ := h
    refine ⟨_, (pss_one (ps_ret (pe_cmpR op_eq (pe_fld (pv 0) rfl) (pe_callB WP.c_len (by rfl) B.b_len (by decide +kernel) (WP.pa_consN (pe_fld (pv 0) rfl) pa_nil)) (nomark _)))), ?_⟩
    k_updF
    refine WP.fldV B.k_Cursor rfl h.o rfl (by decide +kernel) ?_
    k_updF
    refine WP.fldV B.k_Cursor rfl h.o rfl (by decide +kernel) ?_
    k_updF
    refine WP.lenL (SqL.of h.l) ?_
    rw [h.ll]
    k_updF
    rw [show decide ((n : Int) = (c.rs.length : Int)) = decide (n = c.rs.length) from decide_eq_decide.mpr ⟨fun h => by omega, fun h => by omega⟩]
    exact k
  ))) only [D.box_eq]
end
abbrev s_Cursor_row : Stmt := inClass (top 27) 1
abbrev N_Cursor_row : List Str := ["self"]
theorem sc_Cursor_row : FnScope N_Cursor_row ["self"] (defScope s_Cursor_row) := ⟨rfl, rfl, rfl, by decide +kernel, rfl, by decide +kernel, by decide +kernel⟩
def sp_Cursor_row (K : PySem.W.Frag) (mg : WP.MG) : Sp := fun vs H Q _ => ∃ (a : Addr) (c : Cu) (n : Nat), vs = [.ref a] ∧ CurA K mg H a c n ∧ Q (.int (rowC c.rs n : Nat)) H
section
variable {P : Program} {w : World} {K : PySem.W.Frag} {mg : Str → Option Value} {base : Heap}
theorem ok_Cursor_row {f : Addr} {fd : FuncData} (F : Fun K "row" "Cursor.row" s_Cursor_row f fd) (B : Blt w K mg)  : FnOk P w K mg base CX0 1 f fd ["self"] (sp_Cursor_row K mg) := by
  show D.Box _
  simp (discharger := (with_unfolding_all (
  refine F.ok sc_Cursor_row (fun vs H Q E h => ?_) (fun cdv A outer s H vs Q E hr h => ?_)
  · first | (obtain ⟨_, rfl, _⟩ := h; rfl) | (obtain ⟨_, _, rfl, _⟩ := h; rfl) | (obtain ⟨_, _, _, rfl, _⟩ := h; rfl) | (obtain ⟨_, _, _, _, rfl, _⟩ := h; rfl) | (obtain ⟨_, _, _, _, _, rfl, _⟩ := h; rfl) | (obtain ⟨_, _, _, _, _, _, rfl, _⟩ := h; rfl) | (obtain ⟨_, _, _, _, _, _, _, rfl, _⟩ := h; rfl) | (obtain ⟨_, _, _, _, _, _, _, _, rfl, _⟩ := h; rfl) | (obtain ⟨rfl, _⟩ := h; rfl)
  · obtain ⟨a, c, n, rfl, h, k⟩ := h
    refine ⟨_, (pss_cons (ps_if (pt_cmpR op_eq (pe_callB WP.c_len (by rfl) B.b_len (by decide +kernel) (WP.pa_consN (pe_fld (pv 0) rfl) pa_nil)) pe_int (nomark _)) (pss_one (ps_ret pe_int)) pss_nil)
      (pss_one (ps_ret (pe_ix ix_tup (pe_ix ix_list (pe_fld (pv 0) rfl) (pe_callB (WP.c_min2 rfl) (by rfl) B.b_min (by decide +kernel) (WP.pa_consN (pe_fld (pv 0) rfl) (WP.pa_consN (pe_op op_sub (pe_callB WP.c_len (by rfl) B.b_len (by decide +kernel) (WP.pa_consN (pe_fld (pv 0) rfl) pa_nil)) pe_int) pa_nil))) (fun _ _ => rfl)) pe_int (fun _ _ => rfl))))), ?_⟩
    k_updF
    refine WP.fldV B.k_Cursor rfl h.o rfl (by decide +kernel) ?_
    k_updF
    refine WP.lenL (SqL.of h.l) ?_
    rw [h.ll]
    k_updF
    unfold rowC at k
    by_cases c0 : c.rs = []
    · rw [if_pos c0] at k
      refine WP.brT (decide_eq_true (by rw [c0]; rfl)) ?_
      k_updF
      exact k
    · rw [if_neg c0] at k
      have hl : 0 < c.rs.length := List.length_pos_iff.mpr c0
      refine WP.brF (decide_eq_false (by omega)) ?_
      k_updF
      refine WP.fldV B.k_Cursor rfl h.o rfl (by decide +kernel) ?_
      k_updF
      refine WP.fldV B.k_Cursor rfl h.o rfl (by decide +kernel) ?_
      k_updF
      refine WP.fldV B.k_Cursor rfl h.o rfl (by decide +kernel) ?_
      k_updF
      refine WP.lenL (SqL.of h.l) ?_
      rw [h.ll]
      k_updF
      refine WP.minI ?_
      have hm : min n (c.rs.length - 1) < c.rs.length := by omega
      obtain ⟨t, ht⟩ : ∃ t, c.rs[min n (c.rs.length - 1)]? = some t := ⟨_, List.getElem?_eq_getElem hm⟩
      obtain ⟨b, hb, hq⟩ := h.tok ht
      rw [show min (n : Int) ((c.rs.length : Int) - 1) = ((min n (c.rs.length - 1) : Nat) : Int) by omega]
      refine WP.ixL (SqL.of h.l) (atI_nat hb) ?_
      k_updF
      refine WP.ixT hq WP.at0 ?_
      k_updF
      rw [ht] at k
      exact k
  ))) only [D.box_eq]
theorem okH_Cursor_row {f : Addr} {fd : FuncData} (F : Fun K "row" "Cursor.row" s_Cursor_row f fd) (B : Blt w K mg)  : L2H.FnH P w K mg base CX0 1 f fd ["self"] (sp_Cursor_row K mg) := by
  show D.Box _
  simp (discharger := (with_unfolding_all (
  refine WP.okH F sc_Cursor_row (fun vs H Q E h => ?_) (fun cdv A outer s H vs Q E p_ hc hr h => ?_)
  · first | (obtain ⟨_, rfl, _⟩ := h; rfl) | (obtain ⟨_, _, rfl, _⟩ := h; rfl) | (obtain ⟨_, _, _, rfl, _⟩ := h; rfl) | (obtain ⟨_, _, _, _, rfl, _⟩ := h; rfl) | (obtain ⟨_, _, _, _, _, rfl, _⟩ := h; rfl) | (obtain ⟨_, _, _, _, _, _, rfl, _⟩ := h; rfl) | (obtain ⟨_, _, _, _, _, _, _, rfl, _⟩ := h; rfl) | (obtain ⟨_, _, _, _, _, _, _, _, rfl, _⟩ := h; rfl) | (obtain ⟨rfl, _⟩ := h; rfl)
  · obtain ⟨a, c, n, rfl, h, k⟩ := h
    refine ⟨_, (pss_cons (ps_if (pt_cmpR op_eq (pe_callB WP.c_len (by rfl) B.b_len (by decide +kernel) (WP.pa_consN (pe_fld (pv 0) rfl) pa_nil)) pe_int (nomark _)) (pss_one (ps_ret pe_int)) pss_nil)
      (pss_one (ps_ret (pe_ix ix_tup (pe_ix ix_list (pe_fld (pv 0) rfl) (pe_callB (WP.c_min2H hc) (by rfl) B.b_min (by decide +kernel) (WP.pa_consN (pe_fld (pv 0) rfl) (WP.pa_consN (pe_op op_sub (pe_callB WP.c_len (by rfl) B.b_len (by decide +kernel) (WP.pa_consN (pe_fld (pv 0) rfl) pa_nil)) pe_int) pa_nil))) (fun _ _ => rfl)) pe_int (fun _ _ => rfl))))), ?_⟩
    k_updF
    refine WP.fldV B.k_Cursor rfl h.o rfl (by decide +kernel) ?_
    k_updF
    refine WP.lenL (SqL.of h.l) ?_
    rw [h.ll]
    k_updF
    unfold rowC at k
    by_cases c0 : c.rs = []
    · rw [if_pos c0] at k
      refine WP.brT (decide_eq_true (by rw [c0]; rfl)) ?_
      k_updF
      exact k
    · rw [if_neg c0] at k
      have hl : 0 < c.rs.length := List.length_pos_iff.mpr c0
      refine WP.brF (decide_eq_false (by omega)) ?_
      k_updF
      refine WP.fldV B.k_Cursor rfl h.o rfl (by decide +kernel) ?_
      k_updF
      refine WP.fldV B.k_Cursor rfl h.o rfl (by decide +kernel) ?_
      k_updF
      refine WP.fldV B.k_Cursor rfl h.o rfl (by decide +kernel) ?_
      k_updF
      refine WP.lenL (SqL.of h.l) ?_
      rw [h.ll]
      k_updF
      refine WP.minI ?_
      have hm : min n (c.rs.length - 1) < c.rs.length := by omega
      obtain ⟨t, ht⟩ : ∃ t, c.rs[min n (c.rs.length - 1)]? = some t := ⟨_, List.getElem?_eq_getElem hm⟩
      obtain ⟨b, hb, hq⟩ := h.tok ht
      rw [show min (n : Int) ((c.rs.length : Int) - 1) = ((min n (c.rs.length - 1) : Nat) : Int) by omega]
      refine WP.ixL (SqL.of h.l) (atI_nat hb) ?_
      k_updF
      refine WP.ixT hq WP.at0 ?_
      k_updF
      rw [ht] at k
      exact k
  ))) only [D.box_eq]
end
abbrev s_Cursor__next_of_kind : Stmt := inClass (top 27) 15
abbrev N_Cursor__next_of_kind : List Str := ["self", "kind", "_", "found", "word"]
theorem sc_Cursor__next_of_kind : FnScope N_Cursor__next_of_kind ["self", "kind"] (defScope s_Cursor__next_of_kind) := ⟨rfl, rfl, rfl, by decide +kernel, rfl, by decide +kernel, by decide +kernel⟩
def sp_Cursor__next_of_kind (K : PySem.W.Frag) (mg : WP.MG) : Sp := fun vs H Q _ => ∃ (a : Addr) (c : Cu) (n : Nat) (b : Bool), vs = [.ref a, .str (SX.S (kwd b))] ∧ CurA K mg H a c n ∧ Q (.str (SX.S (nxt c.rs n b))) H
section
variable {P : Program} {w : World} {K : PySem.W.Frag} {mg : Str → Option Value} {base : Heap}
theorem ok_Cursor__next_of_kind {f : Addr} {fd : FuncData} (F : Fun K "_next_of_kind" "Cursor._next_of_kind" s_Cursor__next_of_kind f fd) (B : Blt w K mg) (c_Cursor_is_done : WP.CalleeM P w K mg base CX0 1 "Cursor" "is_done" ["self"] (sp_Cursor_is_done K mg)) : FnOk P w K mg base CX0 2 f fd ["self", "kind"] (sp_Cursor__next_of_kind K mg) := by
  show D.Box _
  simp (discharger := (with_unfolding_all (
  obtain ⟨f_Cursor_is_done, d_Cursor_is_done, F_Cursor_is_done, M_Cursor_is_done, b_Cursor_is_done⟩ := c_Cursor_is_done.ex
  refine F.ok sc_Cursor__next_of_kind (fun vs H Q E h => ?_) (fun cdv A outer s H vs Q E hr h => ?_)
  · first | (obtain ⟨_, rfl, _⟩ := h; rfl) | (obtain ⟨_, _, rfl, _⟩ := h; rfl) | (obtain ⟨_, _, _, rfl, _⟩ := h; rfl) | (obtain ⟨_, _, _, _, rfl, _⟩ := h; rfl) | (obtain ⟨_, _, _, _, _, rfl, _⟩ := h; rfl) | (obtain ⟨_, _, _, _, _, _, rfl, _⟩ := h; rfl) | (obtain ⟨_, _, _, _, _, _, _, rfl, _⟩ := h; rfl) | (obtain ⟨_, _, _, _, _, _, _, _, rfl, _⟩ := h; rfl) | (obtain ⟨rfl, _⟩ := h; rfl)
  · obtain ⟨a, c, n, b, rfl, h, k⟩ := h
    refine ⟨_, (pss_cons (ps_if (pt_val (pe_meth0 (pv 0) B.k_Cursor.c M_Cursor_is_done F_Cursor_is_done (hr.mono (by decide)) b_Cursor_is_done .nil pass0)) (pss_one (ps_ret (WP.pe_strL [] (by decide +kernel)))) pss_nil)
      (pss_cons (ps_asg (pe_ix ix_list (pe_fld (pv 0) rfl) (pe_fld (pv 0) rfl) (fun _ _ => rfl)) (pg_tup (by rfl) (pgs_cons (pg_name (i := 2) sc_Cursor__next_of_kind.nd rfl (Or.inl rfl)) (pgs_cons (pg_name (i := 3) sc_Cursor__next_of_kind.nd rfl (Or.inl rfl)) (pgs_cons (pg_name (i := 4) sc_Cursor__next_of_kind.nd rfl (Or.inl rfl)) pgs_nil)))))
      (pss_one (ps_ret (pe_ifExp (pt_cmpR op_eq (pv 3) (pv 1) (nomark _)) (pv 4) (WP.pe_strL [] (by decide +kernel))))))), ?_⟩
    k_updF
    refine WP.methV rfl h.o rfl ?_
    k_updF
    refine ⟨a, c, n, rfl, h, ?_⟩
    k_updF
    by_cases c0 : n = c.rs.length
    · refine WP.brT (decide_eq_true c0) ?_
      k_updF
      rw [c0, nxt_end] at k
      exact k
    · refine WP.brF (decide_eq_false c0) ?_
      k_updF
      refine WP.fldV B.k_Cursor rfl h.o rfl (by decide +kernel) ?_
      k_updF
      refine WP.fldV B.k_Cursor rfl h.o rfl (by decide +kernel) ?_
      k_updF
      have hn := h.n
      obtain ⟨⟨r, s2, w⟩, ht⟩ : ∃ t, c.rs[n]? = some t := ⟨_, List.getElem?_eq_getElem (by omega)⟩
      obtain ⟨p, hb, hq⟩ := h.tok ht
      unfold nxt at k
      rw [ht] at k
      refine WP.ixL (SqL.of h.l) (atI_nat hb) ?_
      k_updF
      have hq : SqT K H p [.int (r : Int), .str (SX.S (if s2 = true then [115, 116, 114, 105, 110, 103] else [119, 111, 114, 100])), .str (SX.S w)] := hq
      refine WP.unT hq rfl ?_
      k_updF
      have e : decide ((if s2 = true then [115, 116, 114, 105, 110, 103] else [119, 111, 114, 100] : List Nat) = kwd b) = decide (s2 = b) := by cases s2 <;> cases b <;> decide
      by_cases c1 : s2 = b
      · refine WP.brT (by rw [e]; exact decide_eq_true c1) ?_
        k_updF
        have k2 : Q (.str (SX.S (if s2 = b then w else []))) H := k
        rw [if_pos c1] at k2
        exact k2
      · refine WP.brF (by rw [e]; exact decide_eq_false c1) ?_
        have k2 : Q (.str (SX.S (if s2 = b then w else []))) H := k
        rw [if_neg c1] at k2
        exact k2
  ))) only [D.box_eq]
end
abbrev s_Cursor_peek : Stmt := inClass (top 27) 5
abbrev N_Cursor_peek : List Str := ["self"]
theorem sc_Cursor_peek : FnScope N_Cursor_peek ["self"] (defScope s_Cursor_peek) := ⟨rfl, rfl, rfl, by decide +kernel, rfl, by decide +kernel, by decide +kernel⟩
def sp_Cursor_peek (K : PySem.W.Frag) (mg : WP.MG) : Sp := fun vs H Q _ => ∃ (a : Addr) (c : Cu) (n : Nat), vs = [.ref a] ∧ CurA K mg H a c n ∧ Q (.str (SX.S (nxt c.rs n false))) H
section
variable {P : Program} {w : World} {K : PySem.W.Frag} {mg : Str → Option Value} {base : Heap}
theorem ok_Cursor_peek {f : Addr} {fd : FuncData} (F : Fun K "peek" "Cursor.peek" s_Cursor_peek f fd) (B : Blt w K mg) (c_Cursor__next_of_kind : WP.CalleeM P w K mg base CX0 2 "Cursor" "_next_of_kind" ["self", "kind"] (sp_Cursor__next_of_kind K mg)) : FnOk P w K mg base CX0 3 f fd ["self"] (sp_Cursor_peek K mg) := by
  show D.Box _
  simp (discharger := (with_unfolding_all (
  obtain ⟨f_Cursor__next_of_kind, d_Cursor__next_of_kind, F_Cursor__next_of_kind, M_Cursor__next_of_kind, b_Cursor__next_of_kind⟩ := c_Cursor__next_of_kind.ex
  refine F.ok sc_Cursor_peek (fun vs H Q E h => ?_) (fun cdv A outer s H vs Q E hr h => ?_)
  · first | (obtain ⟨_, rfl, _⟩ := h; rfl) | (obtain ⟨_, _, rfl, _⟩ := h; rfl) | (obtain ⟨_, _, _, rfl, _⟩ := h; rfl) | (obtain ⟨_, _, _, _, rfl, _⟩ := h; rfl) | (obtain ⟨_, _, _, _, _, rfl, _⟩ := h; rfl) | (obtain ⟨_, _, _, _, _, _, rfl, _⟩ := h; rfl) | (obtain ⟨_, _, _, _, _, _, _, rfl, _⟩ := h; rfl) | (obtain ⟨_, _, _, _, _, _, _, _, rfl, _⟩ := h; rfl) | (obtain ⟨rfl, _⟩ := h; rfl)
  · obtain ⟨a, c, n, rfl, h, k⟩ := h
    refine ⟨_, (pss_one (ps_ret (pe_meth (pv 0) B.k_Cursor.c M_Cursor__next_of_kind F_Cursor__next_of_kind (hr.mono (by decide)) b_Cursor__next_of_kind .nil pass0 (WP.pa_consN (WP.pe_strL [119, 111, 114, 100] (by decide +kernel)) pa_nil)))), ?_⟩
    k_updF
    refine WP.methV rfl h.o rfl ?_
    k_updF
    exact ⟨a, c, n, false, rfl, h, k⟩
  ))) only [D.box_eq]
end
abbrev s_Cursor_accept : Stmt := inClass (top 27) 6
abbrev N_Cursor_accept : List Str := ["self", "word"]
theorem sc_Cursor_accept : FnScope N_Cursor_accept ["self", "word"] (defScope s_Cursor_accept) := ⟨rfl, rfl, rfl, by decide +kernel, rfl, by decide +kernel, by decide +kernel⟩
def sp_Cursor_accept (K : PySem.W.Frag) (mg : WP.MG) : Sp := fun vs H Q _ => ∃ (a : Addr) (c : Cu) (n : Nat) (w : List Nat), vs = [.ref a, .str (SX.S w)] ∧ CurA K mg H a c n ∧ w ≠ [] ∧ (nxt c.rs n false = w → Q (.bl true) (upd H a (cuO mg c (n + 1)))) ∧ (nxt c.rs n false ≠ w → Q (.bl false) H)
section
variable {P : Program} {w : World} {K : PySem.W.Frag} {mg : Str → Option Value} {base : Heap}
theorem ok_Cursor_accept {f : Addr} {fd : FuncData} (F : Fun K "accept" "Cursor.accept" s_Cursor_accept f fd) (B : Blt w K mg) (c_Cursor_peek : WP.CalleeM P w K mg base CX0 3 "Cursor" "peek" ["self"] (sp_Cursor_peek K mg)) : FnOk P w K mg base CX0 4 f fd ["self", "word"] (sp_Cursor_accept K mg) := by
  show D.Box _
  simp (discharger := (with_unfolding_all (
  obtain ⟨f_Cursor_peek, d_Cursor_peek, F_Cursor_peek, M_Cursor_peek, b_Cursor_peek⟩ := c_Cursor_peek.ex
  refine F.ok sc_Cursor_accept (fun vs H Q E h => ?_) (fun cdv A outer s H vs Q E hr h => ?_)
  · first | (obtain ⟨_, rfl, _⟩ := h; rfl) | (obtain ⟨_, _, rfl, _⟩ := h; rfl) | (obtain ⟨_, _, _, rfl, _⟩ := h; rfl) | (obtain ⟨_, _, _, _, rfl, _⟩ := h; rfl) | (obtain ⟨_, _, _, _, _, rfl, _⟩ := h; rfl) | (obtain ⟨_, _, _, _, _, _, rfl, _⟩ := h; rfl) | (obtain ⟨_, _, _, _, _, _, _, rfl, _⟩ := h; rfl) | (obtain ⟨_, _, _, _, _, _, _, _, rfl, _⟩ := h; rfl) | (obtain ⟨rfl, _⟩ := h; rfl)
  · obtain ⟨a, c, n, w, rfl, h, hw, kT, kF⟩ := h
    refine ⟨_, (pss_cons (ps_if (pt_cmpR op_ne (pe_meth0 (pv 0) B.k_Cursor.c M_Cursor_peek F_Cursor_peek (hr.mono (by decide)) b_Cursor_peek .nil pass0) (pv 1) (nomark _)) (pss_one (ps_ret pe_bl)) pss_nil)
      (pss_cons (ps_fld (pv 0) (pe_op op_add (pe_fld (pv 0) rfl) pe_int) rfl)
      (pss_one (ps_ret pe_bl)))), ?_⟩
    k_updF
    refine WP.methV rfl h.o rfl ?_
    k_updF
    refine ⟨a, c, n, rfl, h, ?_⟩
    k_updF
    refine WP.brN (fun e => ?_) (fun e => ?_)
    · k_updF
      exact kF e
    · k_updF
      refine WP.fldV B.k_Cursor rfl h.o rfl (by decide +kernel) ?_
      k_updF
      refine WP.sfldA B.k_Cursor h.o (by show 2 < 1000; decide) ?_
      exact kT e
  ))) only [D.box_eq]
end
abbrev s_Cursor_row_behind : Stmt := inClass (top 27) 2
abbrev N_Cursor_row_behind : List Str := ["self"]
theorem sc_Cursor_row_behind : FnScope N_Cursor_row_behind ["self"] (defScope s_Cursor_row_behind) := ⟨rfl, rfl, rfl, by decide +kernel, rfl, by decide +kernel, by decide +kernel⟩
def sp_Cursor_row_behind (K : PySem.W.Frag) (mg : WP.MG) : Sp := fun vs H Q _ => ∃ (a : Addr) (c : Cu) (n : Nat), vs = [.ref a] ∧ CurA K mg H a c n ∧ Q (.int (rowB c.rs n : Nat)) H
section
variable {P : Program} {w : World} {K : PySem.W.Frag} {mg : Str → Option Value} {base : Heap}
theorem ok_Cursor_row_behind {f : Addr} {fd : FuncData} (F : Fun K "row_behind" "Cursor.row_behind" s_Cursor_row_behind f fd) (B : Blt w K mg)  : FnOk P w K mg base CX0 1 f fd ["self"] (sp_Cursor_row_behind K mg) := by
  show D.Box _
  simp (discharger := (with_unfolding_all (
  refine F.ok sc_Cursor_row_behind (fun vs H Q E h => ?_) (fun cdv A outer s H vs Q E hr h => ?_)
  · first | (obtain ⟨_, rfl, _⟩ := h; rfl) | (obtain ⟨_, _, rfl, _⟩ := h; rfl) | (obtain ⟨_, _, _, rfl, _⟩ := h; rfl) | (obtain ⟨_, _, _, _, rfl, _⟩ := h; rfl) | (obtain ⟨_, _, _, _, _, rfl, _⟩ := h; rfl) | (obtain ⟨_, _, _, _, _, _, rfl, _⟩ := h; rfl) | (obtain ⟨_, _, _, _, _, _, _, rfl, _⟩ := h; rfl) | (obtain ⟨_, _, _, _, _, _, _, _, rfl, _⟩ := h; rfl) | (obtain ⟨rfl, _⟩ := h; rfl)
  · obtain ⟨a, c, n, rfl, h, k⟩ := h
    refine ⟨_, (pss_one (ps_ret (pe_ifExp (pt_cmpR op_gt (pe_fld (pv 0) rfl) pe_int (nomark _)) (pe_ix ix_tup (pe_ix ix_list (pe_fld (pv 0) rfl) (pe_op op_sub (pe_fld (pv 0) rfl) pe_int) (fun _ _ => rfl)) pe_int (fun _ _ => rfl)) pe_int))), ?_⟩
    k_updF
    refine WP.fldV B.k_Cursor rfl h.o rfl (by decide +kernel) ?_
    k_updF
    unfold rowB at k
    by_cases c0 : 0 < n
    · rw [if_pos c0] at k
      refine WP.brT (decide_eq_true (by omega)) ?_
      k_updF
      refine WP.fldV B.k_Cursor rfl h.o rfl (by decide +kernel) ?_
      k_updF
      refine WP.fldV B.k_Cursor rfl h.o rfl (by decide +kernel) ?_
      k_updF
      have hn := h.n
      obtain ⟨t, ht⟩ : ∃ t, c.rs[n - 1]? = some t := ⟨_, List.getElem?_eq_getElem (by omega)⟩
      obtain ⟨b, hb, hq⟩ := h.tok ht
      rw [show (n : Int) - 1 = ((n - 1 : Nat) : Int) by omega]
      refine WP.ixL (SqL.of h.l) (atI_nat hb) ?_
      k_updF
      refine WP.ixT hq WP.at0 ?_
      k_updF
      rw [ht] at k
      exact k
    · rw [if_neg c0] at k
      refine WP.brF (decide_eq_false (by omega)) ?_
      k_updF
      exact k
  ))) only [D.box_eq]
end
abbrev s_Cursor__refuse : Stmt := inClass (top 27) 16
abbrev N_Cursor__refuse : List Str := ["self", "reason"]
theorem sc_Cursor__refuse : FnScope N_Cursor__refuse ["self", "reason"] (defScope s_Cursor__refuse) := ⟨rfl, rfl, rfl, by decide +kernel, rfl, by decide +kernel, by decide +kernel⟩
def sp_Cursor__refuse (K : PySem.W.Frag) (mg : WP.MG) : Sp := fun vs H Q E => ∃ (a : Addr) (c : Cu) (n : Nat) (w : List Nat), vs = [.ref a, .str (SX.S w)] ∧ CurA K mg H a c n ∧ BPr mg H E (.int (rowC c.rs n : Nat)) (.str (SX.S (rsn c.rs n w)))
section
variable {P : Program} {w : World} {K : PySem.W.Frag} {mg : Str → Option Value} {base : Heap}
theorem ok_Cursor__refuse {f : Addr} {fd : FuncData} (F : Fun K "_refuse" "Cursor._refuse" s_Cursor__refuse f fd) (B : Blt w K mg) (c_BadProgram___init__ : WP.CalleeE P w K mg base CX0 1 "BadProgram" ["self", "line", "reason"] (sp_BadProgram___init__ K mg)) (c_Cursor_row : WP.CalleeP P w K mg base CX0 1 "Cursor" "row" ["self"] (sp_Cursor_row K mg)) (c_Cursor_is_done : WP.CalleeM P w K mg base CX0 1 "Cursor" "is_done" ["self"] (sp_Cursor_is_done K mg)) : FnOk P w K mg base (L2.CX P w) 3 f fd ["self", "reason"] (sp_Cursor__refuse K mg) := by
  show D.Box _
  simp (discharger := (with_unfolding_all (
  obtain ⟨f_Cursor_is_done, d_Cursor_is_done, F_Cursor_is_done, M_Cursor_is_done, b_Cursor_is_done⟩ := c_Cursor_is_done.ex
  refine F.okX sc_Cursor__refuse (fun vs H Q E h => ?_) (fun cdv A outer s H vs Q E hr h => ?_)
  · first | (obtain ⟨_, rfl, _⟩ := h; rfl) | (obtain ⟨_, _, rfl, _⟩ := h; rfl) | (obtain ⟨_, _, _, rfl, _⟩ := h; rfl) | (obtain ⟨_, _, _, _, rfl, _⟩ := h; rfl) | (obtain ⟨_, _, _, _, _, rfl, _⟩ := h; rfl) | (obtain ⟨_, _, _, _, _, _, rfl, _⟩ := h; rfl) | (obtain ⟨_, _, _, _, _, _, _, rfl, _⟩ := h; rfl) | (obtain ⟨_, _, _, _, _, _, _, _, rfl, _⟩ := h; rfl) | (obtain ⟨rfl, _⟩ := h; rfl)
  · obtain ⟨a, c, n, w, rfl, h, k⟩ := h
    refine ⟨_, (pss_one (WP.ps_raiseE rfl (takes_of rfl rfl rfl rfl) B.xi_BadProgram c_BadProgram___init__ (hr.mono (by decide)) pass0 (by rfl) (WP.pa_consN (WP.pe_propC (pv 0) B.k_Cursor c_Cursor_row hr) (WP.pa_consN (pe_ifExp (pt_val (pe_meth0 (pv 0) B.k_Cursor.c M_Cursor_is_done F_Cursor_is_done (hr.mono (by decide)) b_Cursor_is_done .nil pass0)) (WP.pe_strL [101, 110, 100] (by decide +kernel)) (pv 1)) pa_nil)))), ?_⟩
    k_updF
    refine WP.propV rfl h.o ⟨a, c, n, rfl, h, ?_⟩
    k_updF
    refine WP.methV rfl h.o rfl ?_
    k_updF
    refine ⟨a, c, n, rfl, h, ?_⟩
    k_updF
    unfold rsn at k
    by_cases c0 : n = c.rs.length
    · rw [if_pos c0] at k
      refine WP.brT (decide_eq_true c0) ?_
      k_updF
      exact raise_BP k
    · rw [if_neg c0] at k
      refine WP.brF (decide_eq_false c0) ?_
      k_updF
      exact raise_BP k
  ))) only [D.box_eq]
end
abbrev s_Cursor_expect : Stmt := inClass (top 27) 7
abbrev N_Cursor_expect : List Str := ["self", "words", "word"]
theorem sc_Cursor_expect : FnScope N_Cursor_expect ["self", "words"] (defScope s_Cursor_expect) := ⟨rfl, rfl, rfl, by decide +kernel, rfl, by decide +kernel, by decide +kernel⟩
def sp_Cursor_expect (K : PySem.W.Frag) (mg : WP.MG) : Sp := fun vs H Q E => ∃ (a p : Addr) (c : Cu) (n : Nat) (ws : List (List Nat)), vs = [.ref a, .ref p] ∧ CurA K mg H a c n ∧ SqT K H p (ws.map fun w => .str (SX.S w)) ∧ (∀ w ∈ ws, w ≠ []) ∧
  (mtc c.rs n ws = ws.length → ∀ H', WP.Sn a H H' → H' a = some (cuO mg c (n + ws.length)) → Q .non H') ∧
  (mtc c.rs n ws < ws.length → BPc mg H a c (n + mtc c.rs n ws) E (.int (rowC c.rs (n + mtc c.rs n ws) : Nat)) (.str (SX.S (rsn c.rs (n + mtc c.rs n ws) kWORD))))
section
variable {P : Program} {w : World} {K : PySem.W.Frag} {mg : Str → Option Value} {base : Heap}
theorem ok_Cursor_expect {f : Addr} {fd : FuncData} (F : Fun K "expect" "Cursor.expect" s_Cursor_expect f fd) (B : Blt w K mg) (c_Cursor_accept : WP.CalleeM P w K mg base CX0 4 "Cursor" "accept" ["self", "word"] (sp_Cursor_accept K mg)) (c_Cursor__refuse : WP.CalleeM P w K mg base (L2.CX P w) 3 "Cursor" "_refuse" ["self", "reason"] (sp_Cursor__refuse K mg)) : FnR P w K mg base (L2.CX P w) 5 f (WP.starSp 1 (sp_Cursor_expect K mg)) := by
  show D.Box _
  simp (discharger := (with_unfolding_all (
  obtain ⟨f_Cursor_accept, d_Cursor_accept, F_Cursor_accept, M_Cursor_accept, b_Cursor_accept⟩ := c_Cursor_accept.ex
  obtain ⟨f_Cursor__refuse, d_Cursor__refuse, F_Cursor__refuse, M_Cursor__refuse, b_Cursor__refuse⟩ := c_Cursor__refuse.ex
  refine WP.okStar (ps := ["self"]) F (StX.cxUp) sc_Cursor_expect (fun _ _ _ _ _ _ => StX.bind_star1 (B := fun l => bindArgs _ ⟨l, []⟩) (fun _ => rfl) (fun _ _ _ => rfl)) (fun cdv A outer s H vs Q E hr h => ?_)
  · obtain ⟨a, p, c, n, ws, rfl, h, hp, hne, kQ, kE⟩ := h
    refine ⟨_, (pss_one (ps_for (passes_of rfl) rfl (pi_tup (pv 1)) (pg_name (i := 2) sc_Cursor_expect.nd rfl (Or.inl rfl)) (pss_one (ps_if (pt_not (pt_val (pe_meth (pv 0) B.k_Cursor.c M_Cursor_accept F_Cursor_accept (hr.mono (by decide)) b_Cursor_accept .nil pass0 (WP.pa_consN (pv 2) pa_nil)))) (pss_one (ps_expr (pe_meth (pv 0) B.k_Cursor.c M_Cursor__refuse F_Cursor__refuse (hr.mono (by decide)) b_Cursor__refuse .nil (WP.passX rfl rfl rfl rfl) (WP.pa_consN (WP.pe_strL [119, 111, 114, 100] (by decide +kernel)) pa_nil)))) pss_nil)))), ?_⟩
    k_updF
    refine ⟨p, rfl, ⟨_, hp⟩, for_tup (K := K) (a := p) (xs := ws.map fun w => .str (SX.S w)) (fun i σ' H' => ∃ z, σ' = [some (.ref a), some (.ref p), z] ∧ WP.Sn a H H' ∧ CurA K mg H' a c (n + i) ∧ mtc c.rs n ws = i + mtc c.rs (n + i) (ws.drop i)) ⟨none, rfl, .refl, h, by rw [Nat.zero_add]; rfl⟩ (fun i σ' H' _ q => ?_) ?_ ?_⟩
    · obtain ⟨_, _, e1, _⟩ := q
      exact h.sqt e1 hp
    · rintro i v σ' H1 hv ⟨z, rfl, e1, h1, hm⟩
      rw [List.getElem?_map] at hv
      obtain ⟨w, hw, rfl⟩ := Option.map_eq_some_iff.mp hv
      have hiw : i < ws.length := (List.getElem?_eq_some_iff.mp hw).1
      have hdr : ws.drop i = w :: ws.drop (i + 1) := by
        rw [List.drop_eq_getElem_cons hiw]
        congr 1
        exact (List.getElem?_eq_some_iff.mp hw).2
      rw [hdr] at hm
      k_updF
      refine WP.methV rfl h1.o rfl ?_
      k_updF
      refine ⟨a, c, n + i, w, rfl, h1, hne w (List.mem_of_getElem? hw), fun e => ?_, fun e => ?_⟩
      · k_updF
        refine WP.brF rfl ?_
        k_updF
        have hlt := nxt_lt (show nxt c.rs (n + i) false ≠ [] by rw [e]; exact hne w (List.mem_of_getElem? hw))
        refine ⟨_, rfl, e1.trans (sn_at h1.o), h1.go (n + i + 1) (by omega), ?_⟩
        rw [hm]
        show i + (if nxt c.rs (n + i) false = w then mtc c.rs (n + i + 1) (ws.drop (i + 1)) + 1 else 0) = _
        rw [if_pos e]
        show _ = i + 1 + mtc c.rs (n + i + 1) (ws.drop (i + 1))
        omega
      · k_updF
        refine WP.brT rfl ?_
        k_updF
        refine WP.methV rfl h1.o rfl ?_
        k_updF
        have hm0 : mtc c.rs n ws = i := by
          rw [hm]
          show i + (if nxt c.rs (n + i) false = w then _ else 0) = _
          rw [if_neg e]
          rfl
        rw [hm0] at kE
        exact ⟨a, c, n + i, kWORD, rfl, h1, fun d H2 e2 hd => kE hiw d H2 (e1.trans (.of (.of e2))) (e2 _ _ h1.o) hd⟩
    rintro σ' H1 ⟨z, rfl, e1, h1, hm⟩
    rw [List.length_map] at hm h1
    rw [List.drop_length] at hm
    k_updF
    exact kQ hm H1 e1 h1.o
  ))) only [D.box_eq]
end
abbrev s__has_only : Stmt := top 19
abbrev N__has_only : List Str := ["text", "characters"]
theorem sc__has_only : FnScope N__has_only ["text", "characters"] (defScope s__has_only) := ⟨rfl, rfl, rfl, by decide +kernel, rfl, by decide +kernel, by decide +kernel⟩
def sp__has_only (K : PySem.W.Frag) (mg : WP.MG) : Sp := fun vs H Q _ => ∃ l cs : List Nat, vs = [.str (SX.S l), .str (SX.S cs)] ∧ GxR.TabG H (WP.tbl K "_has_only") ∧ WP.MetV (.bl (MW.allIn l cs)) H Q
section
variable {P : Program} {w : World} {K : PySem.W.Frag} {mg : Str → Option Value} {base : Heap}
theorem ok__has_only {f : Addr} {fd : FuncData} (F : WP.FunC K "_has_only" "_has_only" s__has_only f fd (WP.cod K "_has_only")) (T : GxR.TabB base mg (WP.cod K "_has_only") (WP.tbl K "_has_only")) (B : Blt w K mg)  : FnOk P w K mg base CX0 1 f fd ["text", "characters"] (sp__has_only K mg) := by
  show D.Box _
  simp (discharger := (with_unfolding_all (
  refine F.ok sc__has_only (fun vs H Q E h => ?_) (fun A outer s H vs Q E hr h => ?_)
  · first | (obtain ⟨_, rfl, _⟩ := h; rfl) | (obtain ⟨_, _, rfl, _⟩ := h; rfl) | (obtain ⟨_, _, _, rfl, _⟩ := h; rfl) | (obtain ⟨_, _, _, _, rfl, _⟩ := h; rfl) | (obtain ⟨_, _, _, _, _, rfl, _⟩ := h; rfl) | (obtain ⟨_, _, _, _, _, _, rfl, _⟩ := h; rfl) | (obtain ⟨_, _, _, _, _, _, _, rfl, _⟩ := h; rfl) | (obtain ⟨_, _, _, _, _, _, _, _, rfl, _⟩ := h; rfl) | (obtain ⟨rfl, _⟩ := h; rfl)
  · obtain ⟨l, cs, rfl, hT, k⟩ := h
    refine ⟨_, (pss_one (ps_ret (WP.pe_allC (i := 1) hr rfl B.b_all rfl T rfl (WP.gsc_by (sc := defScope s__has_only) (by decide +kernel)) (pv 0) rfl rfl (by decide) rfl (fun _ => rfl)))), ?_⟩
    k_updF
    refine WP.var rfl ⟨hT, SX.S l, SX.S cs, rfl, rfl, fun H2 h2 => ?_⟩
    exact k _ (.tab hT h2)
  ))) only [D.box_eq]
end
abbrev s_is_name : Stmt := top 18
abbrev N_is_name : List Str := ["value"]
theorem sc_is_name : FnScope N_is_name ["value"] (defScope s_is_name) := ⟨rfl, rfl, rfl, by decide +kernel, rfl, by decide +kernel, by decide +kernel⟩
def sp_is_name (K : PySem.W.Frag) (mg : WP.MG) : Sp := fun vs H Q _ => ∃ v : V, vs = [v] ∧ MW.Wd K H v ∧ GxR.TabG H (WP.tbl K "_has_only") ∧ WP.MetV (.bl (MW.onS MW.nameB v)) H Q
section
variable {P : Program} {w : World} {K : PySem.W.Frag} {mg : Str → Option Value} {base : Heap}
theorem ok_is_name {f : Addr} {fd : FuncData} (F : Fun K "is_name" "is_name" s_is_name f fd) (B : Blt w K mg) (c__has_only : WP.Callee P w K mg base CX0 1 "_has_only" ["text", "characters"] (sp__has_only K mg)) : FnOk P w K mg base CX0 2 f fd ["value"] (sp_is_name K mg) := by
  show D.Box _
  simp (discharger := (with_unfolding_all (
  refine F.ok sc_is_name (fun vs H Q E h => ?_) (fun cdv A outer s H vs Q E hr h => ?_)
  · first | (obtain ⟨_, rfl, _⟩ := h; rfl) | (obtain ⟨_, _, rfl, _⟩ := h; rfl) | (obtain ⟨_, _, _, rfl, _⟩ := h; rfl) | (obtain ⟨_, _, _, _, rfl, _⟩ := h; rfl) | (obtain ⟨_, _, _, _, _, rfl, _⟩ := h; rfl) | (obtain ⟨_, _, _, _, _, _, rfl, _⟩ := h; rfl) | (obtain ⟨_, _, _, _, _, _, _, rfl, _⟩ := h; rfl) | (obtain ⟨_, _, _, _, _, _, _, _, rfl, _⟩ := h; rfl) | (obtain ⟨rfl, _⟩ := h; rfl)
  · obtain ⟨v, rfl, hw, hT, k⟩ := h
    refine ⟨_, (pss_cons (ps_if (PW.pt (pw_or (pt_not (pt_val (pe_callB call_isi (by rfl) B.b_isinstance (by decide +kernel) (pa_cons (pv 0) (pa_cons (pe_bltn (v := .ty "str") rfl B.b_str (by decide +kernel) rfl) pa_nil))))) (pw_or1 (pt_not (pt_chain op_le op_le pe_int (pe_callB WP.c_len (by rfl) B.b_len (by decide +kernel) (WP.pa_consN (pv 0) pa_nil)) (WP.pe_const (by rfl) B.c_MOST_NAME)))))) (pss_one (ps_ret pe_bl)) pss_nil)
      (pss_cons (ps_if (PW.pt (pw_or (pt_cmpR WP.op_notInSign (pe_ix ix_str (pv 0) pe_int (fun _ _ => rfl)) (WP.pe_const (by rfl) B.c_LETTERS) rfl) (pw_or (pt_cmpR op_eq (pe_ix ix_str (pv 0) (pe_un un_neg pe_int) (fun _ _ => rfl)) (WP.pe_strL [45] (by decide +kernel)) (nomark _)) (pw_or1 (pt_cmpR op_in_seq (pv 0) (WP.pe_ktup (by rfl) B.c_RESERVED) rfl))))) (pss_one (ps_ret pe_bl)) pss_nil)
      (pss_one (ps_ret (WP.pe_callC c__has_only hr rfl pass0 (WP.pa_consN (pv 0) (WP.pa_consN (pe_op WP.op_addS (pe_op WP.op_addS (WP.pe_const (by rfl) B.c_LETTERS) (WP.pe_const (by rfl) B.c_FIGURES)) (WP.pe_strL [45] (by decide +kernel))) pa_nil))))))), ?_⟩
    k_updF
    refine hw.isStr ?_
    k_updF
    rcases hw.cases with ⟨l, rfl, hl, ok⟩ | ⟨e1, e2⟩
    · refine WP.brF rfl ?_
      rw [MW.onS_S] at k
      have hz : l.length ≤ sizeLine := by rw [sizeLine_eq]; omega
      refine WP.chain ?_
      k_updF
      refine WP.lenS' hz ?_
      k_updF
      have hout : ¬ (1 ≤ l.length ∧ l.length ≤ 20) → Q (.bl false) H := fun c => by
        have e : MW.nameB l = false := by unfold MW.nameB; rw [decide_eq_false c]; rfl
        rw [e] at k
        exact k _ (.refl _)
      refine WP.br (fun c1 => ?_) (fun c1 => ?_)
      · k_updF
        cases c2 : decide ((l.length : Int) ≤ 20) with
        | false =>
          refine WP.brT rfl ?_
          k_updF
          have := of_decide_eq_false c2
          exact hout (fun z => by omega)
        | true =>
          refine WP.brF rfl ?_
          have c2 := of_decide_eq_true c2
          obtain ⟨a0, a1⟩ := MW.ends (l := l) (by omega)
          have e : MW.nameB l = (!decide (l ∈ MW.RES) && (decide (l.headD 0 ∈ MW.LET) && (!decide ((l.getLast?).getD 0 = 45) && MW.allIn l (MW.LET ++ MW.FIG ++ [45])))) := by unfold MW.nameB; rw [decide_eq_true ⟨by omega, by omega⟩]; rfl
          rw [e] at k
          generalize l.headD 0 = c0 at a0 k
          generalize (l.getLast?).getD 0 = c1 at a1 k
          k_updF
          refine WP.ixS1 a0 hz ?_
          k_updF
          refine WP.notInSign ?_
          k_updF
          refine WP.brN (fun d => ?_) (fun d => ?_)
          · refine WP.brT rfl ?_
            k_updF
            rw [show decide (c0 ∈ MW.LET) = false from decide_eq_false d, Bool.false_and, Bool.and_false] at k
            exact k _ (.refl _)
          · rw [show decide (c0 ∈ MW.LET) = true from decide_eq_true d, Bool.true_and] at k
            k_updF
            refine WP.ixS1 a1 hz ?_
            k_updF
            rw [show decide ([c1] = [45]) = decide (c1 = 45) by congr 1; exact propext ⟨fun z => by simpa using z, fun z => by rw [z]⟩]
            refine WP.br (fun d => ?_) (fun d => ?_)
            · refine WP.brT rfl ?_
              k_updF
              rw [show decide (c1 = 45) = true from decide_eq_true d, Bool.not_true, Bool.false_and, Bool.and_false] at k
              exact k _ (.refl _)
            · rw [show decide (c1 = 45) = false from decide_eq_false d, Bool.not_false, Bool.true_and] at k
              k_updF
              refine WP.inT MW.RES (B.c_RESERVED.s _) rfl ?_
              k_updF
              refine WP.br (fun d => ?_) (fun d => ?_)
              · k_updF
                rw [show decide (l ∈ MW.RES) = true from decide_eq_true d, Bool.not_true, Bool.false_and] at k
                exact k _ (.refl _)
              · rw [show decide (l ∈ MW.RES) = false from decide_eq_false d, Bool.not_false, Bool.true_and] at k
                k_updF
                refine WP.catS ?_ (by rw [sizeLine_eq]; decide)
                k_updF
                refine WP.catS ?_ (by rw [sizeLine_eq]; decide)
                k_updF
                exact ⟨l, _, rfl, hT, k⟩
      · k_updF
        refine WP.brT rfl ?_
        k_updF
        exact hout (fun z => by omega)
    · rw [e1]
      rw [e2] at k
      refine WP.brT rfl ?_
      k_updF
      exact k _ (.refl _)
  ))) only [D.box_eq]
end
abbrev s_Cursor_take_name : Stmt := inClass (top 27) 9
abbrev N_Cursor_take_name : List Str := ["self", "name"]
theorem sc_Cursor_take_name : FnScope N_Cursor_take_name ["self"] (defScope s_Cursor_take_name) := ⟨rfl, rfl, rfl, by decide +kernel, rfl, by decide +kernel, by decide +kernel⟩
def sp_Cursor_take_name (K : PySem.W.Frag) (mg : WP.MG) : Sp := fun vs H Q E => ∃ (a : Addr) (c : Cu) (n : Nat), vs = [.ref a] ∧ CurA K mg H a c n ∧ GxR.TabG H (WP.tbl K "_has_only") ∧
  (MW.nameB (nxt c.rs n false) = true → ∀ H', WP.Sn a H H' → H' a = some (cuO mg c (n + 1)) → Q (.str (SX.S (nxt c.rs n false))) H') ∧
  (MW.nameB (nxt c.rs n false) = false → BPc mg H a c n E (.int (rowC c.rs n : Nat)) (.str (SX.S (rsn c.rs n kWORD))))
section
variable {P : Program} {w : World} {K : PySem.W.Frag} {mg : Str → Option Value} {base : Heap}
theorem ok_Cursor_take_name {f : Addr} {fd : FuncData} (F : Fun K "take_name" "Cursor.take_name" s_Cursor_take_name f fd) (B : Blt w K mg) (c_Cursor_peek : WP.CalleeM P w K mg base CX0 3 "Cursor" "peek" ["self"] (sp_Cursor_peek K mg)) (c_is_name : WP.Callee P w K mg base CX0 2 "is_name" ["value"] (sp_is_name K mg)) (c_Cursor__refuse : WP.CalleeM P w K mg base (L2.CX P w) 3 "Cursor" "_refuse" ["self", "reason"] (sp_Cursor__refuse K mg)) : FnOk P w K mg base (L2.CX P w) 4 f fd ["self"] (sp_Cursor_take_name K mg) := by
  show D.Box _
  simp (discharger := (with_unfolding_all (
  obtain ⟨f_Cursor_peek, d_Cursor_peek, F_Cursor_peek, M_Cursor_peek, b_Cursor_peek⟩ := c_Cursor_peek.ex
  obtain ⟨f_Cursor__refuse, d_Cursor__refuse, F_Cursor__refuse, M_Cursor__refuse, b_Cursor__refuse⟩ := c_Cursor__refuse.ex
  refine F.okX sc_Cursor_take_name (fun vs H Q E h => ?_) (fun cdv A outer s H vs Q E hr h => ?_)
  · first | (obtain ⟨_, rfl, _⟩ := h; rfl) | (obtain ⟨_, _, rfl, _⟩ := h; rfl) | (obtain ⟨_, _, _, rfl, _⟩ := h; rfl) | (obtain ⟨_, _, _, _, rfl, _⟩ := h; rfl) | (obtain ⟨_, _, _, _, _, rfl, _⟩ := h; rfl) | (obtain ⟨_, _, _, _, _, _, rfl, _⟩ := h; rfl) | (obtain ⟨_, _, _, _, _, _, _, rfl, _⟩ := h; rfl) | (obtain ⟨_, _, _, _, _, _, _, _, rfl, _⟩ := h; rfl) | (obtain ⟨rfl, _⟩ := h; rfl)
  · obtain ⟨a, c, n, rfl, h, hT, kQ, kE⟩ := h
    refine ⟨_, (pss_cons (ps_set (i := 1) sc_Cursor_take_name.nd rfl (Or.inl rfl) (pe_meth0 (pv 0) B.k_Cursor.c M_Cursor_peek F_Cursor_peek (hr.mono (by decide)) b_Cursor_peek .nil pass0))
      (pss_cons (ps_if (pt_not (pt_val (WP.pe_callC c_is_name hr rfl pass0 (WP.pa_consN (pv 1) pa_nil)))) (pss_one (ps_expr (pe_meth (pv 0) B.k_Cursor.c M_Cursor__refuse F_Cursor__refuse (hr.mono (by decide)) b_Cursor__refuse .nil (WP.passX rfl rfl rfl rfl) (WP.pa_consN (WP.pe_strL [119, 111, 114, 100] (by decide +kernel)) pa_nil)))) pss_nil)
      (pss_cons (ps_fld (pv 0) (pe_op op_add (pe_fld (pv 0) rfl) pe_int) rfl)
      (pss_one (ps_ret (pv 1)))))), ?_⟩
    k_updF
    refine WP.methV rfl h.o rfl ?_
    k_updF
    refine ⟨a, c, n, rfl, h, ?_⟩
    k_updF
    refine ⟨_, rfl, .str (h.wd false).1 (h.wd false).2, hT, fun H1 e1 => ?_⟩
    k_updF
    rw [MW.onS_S]
    cases e : MW.nameB (nxt c.rs n false) with
    | false =>
      refine WP.brT rfl ?_
      k_updF
      refine WP.methV rfl (h.sm e1).o rfl ?_
      k_updF
      exact ⟨a, c, n, kWORD, rfl, h.sm e1, h.bp e1 (kE e)⟩
    | true =>
      refine WP.brF rfl ?_
      k_updF
      refine WP.fldV B.k_Cursor rfl (h.sm e1).o rfl (by decide +kernel) ?_
      k_updF
      refine WP.sfldA B.k_Cursor (h.sm e1).o (by show 2 < 1000; decide) ?_
      k_updF
      exact kQ e _ ((WP.Sn.of e1).trans (sn_at (h.sm e1).o)) upd_same
  ))) only [D.box_eq]
end
abbrev s_are_figures : Stmt := top 17
abbrev N_are_figures : List Str := ["value"]
theorem sc_are_figures : FnScope N_are_figures ["value"] (defScope s_are_figures) := ⟨rfl, rfl, rfl, by decide +kernel, rfl, by decide +kernel, by decide +kernel⟩
def sp_are_figures (K : PySem.W.Frag) (mg : WP.MG) : Sp := fun vs H Q _ => ∃ v : V, vs = [v] ∧ MW.Wd K H v ∧ GxR.TabG H (WP.tbl K "_has_only") ∧ WP.MetV (.bl (MW.onS MW.figs v)) H Q
section
variable {P : Program} {w : World} {K : PySem.W.Frag} {mg : Str → Option Value} {base : Heap}
theorem ok_are_figures {f : Addr} {fd : FuncData} (F : Fun K "are_figures" "are_figures" s_are_figures f fd) (B : Blt w K mg) (c__has_only : WP.Callee P w K mg base CX0 1 "_has_only" ["text", "characters"] (sp__has_only K mg)) : FnOk P w K mg base CX0 2 f fd ["value"] (sp_are_figures K mg) := by
  show D.Box _
  simp (discharger := (with_unfolding_all (
  refine F.ok sc_are_figures (fun vs H Q E h => ?_) (fun cdv A outer s H vs Q E hr h => ?_)
  · first | (obtain ⟨_, rfl, _⟩ := h; rfl) | (obtain ⟨_, _, rfl, _⟩ := h; rfl) | (obtain ⟨_, _, _, rfl, _⟩ := h; rfl) | (obtain ⟨_, _, _, _, rfl, _⟩ := h; rfl) | (obtain ⟨_, _, _, _, _, rfl, _⟩ := h; rfl) | (obtain ⟨_, _, _, _, _, _, rfl, _⟩ := h; rfl) | (obtain ⟨_, _, _, _, _, _, _, rfl, _⟩ := h; rfl) | (obtain ⟨_, _, _, _, _, _, _, _, rfl, _⟩ := h; rfl) | (obtain ⟨rfl, _⟩ := h; rfl)
  · obtain ⟨v, rfl, hw, hT, k⟩ := h
    refine ⟨_, (pss_one (ps_ret (pe_and (pe_callB call_isi (by rfl) B.b_isinstance (by decide +kernel) (pa_cons (pv 0) (pa_cons (pe_bltn (v := .ty "str") rfl B.b_str (by decide +kernel) rfl) pa_nil))) (pe_and (pe_cmpR op_ne (pv 0) (WP.pe_strL [] (by decide +kernel)) (nomark _)) (pe_one (WP.pe_callC c__has_only hr rfl pass0 (WP.pa_consN (pv 0) (WP.pa_consN (WP.pe_const (by rfl) B.c_FIGURES) pa_nil)))))))), ?_⟩
    k_updF
    refine hw.isStr ?_
    refine ⟨_, rfl, ?_⟩
    rcases hw.cases with ⟨l, rfl, hl, ok⟩ | ⟨e1, e2⟩
    · refine WP.brT rfl ?_
      k_updF
      rw [MW.onS_S] at k
      refine WP.brN (fun c => ?_) (fun c => ?_)
      · k_updF
        refine ⟨l, MW.FIG, rfl, hT, ?_⟩
        have e : MW.figs l = MW.allIn l MW.FIG := by unfold MW.figs; rw [decide_eq_false c]; rfl
        rw [e] at k
        exact k
      · have e : MW.figs l = false := by unfold MW.figs; rw [decide_eq_true c]; rfl
        rw [e] at k
        exact k _ (.refl _)
    · rw [e1]
      rw [e2] at k
      refine WP.brF rfl ?_
      exact k _ (.refl _)
  ))) only [D.box_eq]
end
abbrev s__is_integer_word : Stmt := top 30
abbrev N__is_integer_word : List Str := ["figures"]
theorem sc__is_integer_word : FnScope N__is_integer_word ["figures"] (defScope s__is_integer_word) := ⟨rfl, rfl, rfl, by decide +kernel, rfl, by decide +kernel, by decide +kernel⟩
def sp__is_integer_word (K : PySem.W.Frag) (mg : WP.MG) : Sp := fun vs H Q _ => ∃ l : List Nat, vs = [.str (SX.S l)] ∧ l ≠ [] ∧ l.length ≤ 1000 ∧ Q (.bl (intW l)) H
section
variable {P : Program} {w : World} {K : PySem.W.Frag} {mg : Str → Option Value} {base : Heap}
theorem ok__is_integer_word {f : Addr} {fd : FuncData} (F : Fun K "_is_integer_word" "_is_integer_word" s__is_integer_word f fd) (B : Blt w K mg)  : FnOk P w K mg base CX0 1 f fd ["figures"] (sp__is_integer_word K mg) := by
  show D.Box _
  simp (discharger := (with_unfolding_all (
  refine F.ok sc__is_integer_word (fun vs H Q E h => ?_) (fun cdv A outer s H vs Q E hr h => ?_)
  · first | (obtain ⟨_, rfl, _⟩ := h; rfl) | (obtain ⟨_, _, rfl, _⟩ := h; rfl) | (obtain ⟨_, _, _, rfl, _⟩ := h; rfl) | (obtain ⟨_, _, _, _, rfl, _⟩ := h; rfl) | (obtain ⟨_, _, _, _, _, rfl, _⟩ := h; rfl) | (obtain ⟨_, _, _, _, _, _, rfl, _⟩ := h; rfl) | (obtain ⟨_, _, _, _, _, _, _, rfl, _⟩ := h; rfl) | (obtain ⟨_, _, _, _, _, _, _, _, rfl, _⟩ := h; rfl) | (obtain ⟨rfl, _⟩ := h; rfl)
  · obtain ⟨l, rfl, hne, hl, k⟩ := h
    refine ⟨_, (pss_one (ps_ret (pe_and (pe_cmpR op_le (pe_callB WP.c_len (by rfl) B.b_len (by decide +kernel) (WP.pa_consN (pv 0) pa_nil)) (WP.pe_const (by rfl) B.c_MOST_DIGITS) (nomark _)) (pe_one (pe_or (pe_cmpR op_eq (pv 0) (WP.pe_strL [48] (by decide +kernel)) (nomark _)) (pe_one (pe_cmpR op_ne (pe_ix ix_str (pv 0) pe_int (fun _ _ => rfl)) (WP.pe_strL [48] (by decide +kernel)) (nomark _)))))))), ?_⟩
    have hz : l.length ≤ sizeLine := by rw [sizeLine_eq]; omega
    unfold intW at k
    k_updF
    refine WP.lenS' hz ?_
    k_updF
    by_cases c0 : l.length ≤ 18
    · rw [decide_eq_true c0, Bool.true_and] at k
      refine WP.brT (decide_eq_true (by omega)) ?_
      k_updF
      by_cases c1 : l = [48]
      · rw [decide_eq_true c1, Bool.true_or] at k
        refine WP.brT (decide_eq_true c1) ?_
        exact k
      · rw [decide_eq_false c1, Bool.false_or] at k
        refine WP.brF (decide_eq_false c1) ?_
        k_updF
        obtain ⟨x, r, rfl⟩ := List.exists_cons_of_ne_nil hne
        refine WP.ixS1 (c := x) (atI_nat (j := 0) rfl) hz ?_
        k_updF
        have e : decide ([x] = [48]) = decide ((x :: r).headD 0 = 48) := decide_eq_decide.mpr ⟨fun h => by injection h, fun h => by rw [show x = 48 from h]⟩
        rw [e]
        exact k
    · rw [decide_eq_false c0, Bool.false_and] at k
      refine WP.brF (decide_eq_false (by omega)) ?_
      exact k
  ))) only [D.box_eq]
end
abbrev s_Cursor_take_integer : Stmt := inClass (top 27) 12
abbrev N_Cursor_take_integer : List Str := ["self", "least", "greatest", "word"]
theorem sc_Cursor_take_integer : FnScope N_Cursor_take_integer ["self", "least", "greatest"] (defScope s_Cursor_take_integer) := ⟨rfl, rfl, rfl, by decide +kernel, rfl, by decide +kernel, by decide +kernel⟩
def sp_Cursor_take_integer (K : PySem.W.Frag) (mg : WP.MG) : Sp := fun vs H Q E => ∃ (a : Addr) (c : Cu) (n : Nat) (lo hi : Int), vs = [.ref a, .int lo, .int hi] ∧ CurA K mg H a c n ∧ GxR.TabG H (WP.tbl K "_has_only") ∧
  (MW.figs (nxt c.rs n false) = false → BPc mg H a c n E (.int (rowC c.rs n : Nat)) (.str (SX.S (rsn c.rs n kWORD)))) ∧
  (MW.figs (nxt c.rs n false) = true → intW (nxt c.rs n false) = false ∨ ¬ (lo ≤ (NumText.digitsVal (nxt c.rs n false) : Int) ∧ (NumText.digitsVal (nxt c.rs n false) : Int) ≤ hi) → BPc mg H a c n E (.int (rowC c.rs n : Nat)) (.str (SX.S (rsn c.rs n kVALU)))) ∧
  (MW.figs (nxt c.rs n false) = true → intW (nxt c.rs n false) = true → lo ≤ (NumText.digitsVal (nxt c.rs n false) : Int) ∧ (NumText.digitsVal (nxt c.rs n false) : Int) ≤ hi → ∀ H', WP.Sn a H H' → H' a = some (cuO mg c (n + 1)) → Q (.int (NumText.digitsVal (nxt c.rs n false) : Nat)) H')
section
variable {P : Program} {w : World} {K : PySem.W.Frag} {mg : Str → Option Value} {base : Heap}
theorem ok_Cursor_take_integer {f : Addr} {fd : FuncData} (F : Fun K "take_integer" "Cursor.take_integer" s_Cursor_take_integer f fd) (B : Blt w K mg) (c_Cursor_peek : WP.CalleeM P w K mg base CX0 3 "Cursor" "peek" ["self"] (sp_Cursor_peek K mg)) (c_are_figures : WP.Callee P w K mg base CX0 2 "are_figures" ["value"] (sp_are_figures K mg)) (c_Cursor__refuse : WP.CalleeM P w K mg base (L2.CX P w) 3 "Cursor" "_refuse" ["self", "reason"] (sp_Cursor__refuse K mg)) (c__is_integer_word : WP.Callee P w K mg base CX0 1 "_is_integer_word" ["figures"] (sp__is_integer_word K mg)) : FnOk P w K mg base (L2.CX P w) 4 f fd ["self", "least", "greatest"] (sp_Cursor_take_integer K mg) := by
  show D.Box _
  simp (discharger := (with_unfolding_all (
  obtain ⟨f_Cursor_peek, d_Cursor_peek, F_Cursor_peek, M_Cursor_peek, b_Cursor_peek⟩ := c_Cursor_peek.ex
  obtain ⟨f_Cursor__refuse, d_Cursor__refuse, F_Cursor__refuse, M_Cursor__refuse, b_Cursor__refuse⟩ := c_Cursor__refuse.ex
  refine F.okX sc_Cursor_take_integer (fun vs H Q E h => ?_) (fun cdv A outer s H vs Q E hr h => ?_)
  · first | (obtain ⟨_, rfl, _⟩ := h; rfl) | (obtain ⟨_, _, rfl, _⟩ := h; rfl) | (obtain ⟨_, _, _, rfl, _⟩ := h; rfl) | (obtain ⟨_, _, _, _, rfl, _⟩ := h; rfl) | (obtain ⟨_, _, _, _, _, rfl, _⟩ := h; rfl) | (obtain ⟨_, _, _, _, _, _, rfl, _⟩ := h; rfl) | (obtain ⟨_, _, _, _, _, _, _, rfl, _⟩ := h; rfl) | (obtain ⟨_, _, _, _, _, _, _, _, rfl, _⟩ := h; rfl) | (obtain ⟨rfl, _⟩ := h; rfl)
  · obtain ⟨a, c, n, lo, hi, rfl, h, hT, kW, kV, kQ⟩ := h
    refine ⟨_, (pss_cons (ps_set (i := 3) sc_Cursor_take_integer.nd rfl (Or.inl rfl) (pe_meth0 (pv 0) B.k_Cursor.c M_Cursor_peek F_Cursor_peek (hr.mono (by decide)) b_Cursor_peek .nil pass0))
      (pss_cons (ps_if (pt_not (pt_val (WP.pe_callC c_are_figures hr rfl pass0 (WP.pa_consN (pv 3) pa_nil)))) (pss_one (ps_expr (pe_meth (pv 0) B.k_Cursor.c M_Cursor__refuse F_Cursor__refuse (hr.mono (by decide)) b_Cursor__refuse .nil (WP.passX rfl rfl rfl rfl) (WP.pa_consN (WP.pe_strL [119, 111, 114, 100] (by decide +kernel)) pa_nil)))) pss_nil)
      (pss_cons (ps_if (PW.pt (pw_or (pt_not (pt_val (WP.pe_callC c__is_integer_word hr rfl pass0 (WP.pa_consN (pv 3) pa_nil)))) (pw_or1 (pt_not (pt_chain op_le op_le (pv 1) (pe_callTy WP.c_intS (by rfl) B.b_int (by decide +kernel) (WP.pa_consN (pv 3) pa_nil)) (pv 2)))))) (pss_one (ps_expr (pe_meth (pv 0) B.k_Cursor.c M_Cursor__refuse F_Cursor__refuse (hr.mono (by decide)) b_Cursor__refuse .nil (WP.passX rfl rfl rfl rfl) (WP.pa_consN (WP.pe_strL [118, 97, 108, 117, 101] (by decide +kernel)) pa_nil)))) pss_nil)
      (pss_cons (ps_fld (pv 0) (pe_op op_add (pe_fld (pv 0) rfl) pe_int) rfl)
      (pss_one (ps_ret (pe_callTy WP.c_intS (by rfl) B.b_int (by decide +kernel) (WP.pa_consN (pv 3) pa_nil)))))))), ?_⟩
    k_updF
    refine WP.methV rfl h.o rfl ?_
    k_updF
    refine ⟨a, c, n, rfl, h, ?_⟩
    k_updF
    refine ⟨_, rfl, .str (h.wd false).1 (h.wd false).2, hT, fun H1 e1 => ?_⟩
    k_updF
    rw [MW.onS_S]
    have h1 := h.sm e1
    have hw := h.wd false
    cases e : MW.figs (nxt c.rs n false) with
    | false =>
      refine WP.brT rfl ?_
      k_updF
      refine WP.methV rfl h1.o rfl ?_
      k_updF
      exact ⟨a, c, n, kWORD, rfl, h1, h.bp e1 (kW e)⟩
    | true =>
      refine WP.brF rfl ?_
      k_updF
      have hne : nxt c.rs n false ≠ [] := fun z => by rw [z] at e; cases e
      refine ⟨_, rfl, hne, hw.1, ?_⟩
      k_updF
      have out : intW (nxt c.rs n false) = false ∨ ¬ (lo ≤ (NumText.digitsVal (nxt c.rs n false) : Int) ∧ (NumText.digitsVal (nxt c.rs n false) : Int) ≤ hi) → BPr mg H1 E (.int (rowC c.rs n : Nat)) (.str (SX.S (rsn c.rs n kVALU))) := fun z => h.bp e1 (kV e z)
      cases e2 : intW (nxt c.rs n false) with
      | false =>
        refine WP.brT rfl ?_
        refine WP.brT rfl ?_
        k_updF
        refine WP.methV rfl h1.o rfl ?_
        k_updF
        exact ⟨a, c, n, kVALU, rfl, h1, out (.inl e2)⟩
      | true =>
        have l18 : (nxt c.rs n false).length ≤ 18 := by
          unfold intW at e2
          exact of_decide_eq_true (Bool.and_eq_true_iff.mp e2).1
        have dg := (MW.figs_all e).2
        refine WP.brF rfl ?_
        k_updF
        refine WP.chain ?_
        k_updF
        refine WP.intSd dg hne (by omega) ?_
        k_updF
        by_cases c1 : lo ≤ (NumText.digitsVal (nxt c.rs n false) : Int)
        · refine WP.brT (decide_eq_true c1) ?_
          k_updF
          by_cases c2 : (NumText.digitsVal (nxt c.rs n false) : Int) ≤ hi
          · refine WP.brF (by rw [decide_eq_true c2]; rfl) ?_
            k_updF
            refine WP.fldV B.k_Cursor rfl h1.o rfl (by decide +kernel) ?_
            k_updF
            refine WP.sfldA B.k_Cursor h1.o (by show 2 < 1000; decide) ?_
            k_updF
            refine WP.intSd dg hne (by omega) ?_
            exact kQ e e2 ⟨c1, c2⟩ _ ((WP.Sn.of e1).trans (sn_at h1.o)) upd_same
          · refine WP.brT (by rw [decide_eq_false c2]; rfl) ?_
            k_updF
            refine WP.methV rfl h1.o rfl ?_
            k_updF
            exact ⟨a, c, n, kVALU, rfl, h1, out (.inr fun z => c2 z.2)⟩
        · refine WP.brF (decide_eq_false c1) ?_
          k_updF
          refine WP.brT rfl ?_
          k_updF
          refine WP.methV rfl h1.o rfl ?_
          k_updF
          exact ⟨a, c, n, kVALU, rfl, h1, out (.inr fun z => c1 z.1)⟩
  ))) only [D.box_eq]
end
abbrev s_is_numeric : Stmt := top 29
abbrev N_is_numeric : List Str := ["word"]
theorem sc_is_numeric : FnScope N_is_numeric ["word"] (defScope s_is_numeric) := ⟨rfl, rfl, rfl, by decide +kernel, rfl, by decide +kernel, by decide +kernel⟩
def sp_is_numeric (K : PySem.W.Frag) (mg : WP.MG) : Sp := fun vs H Q _ => ∃ l : List Nat, vs = [.str (SX.S l)] ∧ l.length ≤ 1000 ∧ (∀ c ∈ l, c < 128) ∧ GxR.TabG H (WP.tbl K "_has_only") ∧ WP.MetV (.bl (numB l)) H Q
section
variable {P : Program} {w : World} {K : PySem.W.Frag} {mg : Str → Option Value} {base : Heap}
theorem ok_is_numeric {f : Addr} {fd : FuncData} (F : Fun K "is_numeric" "is_numeric" s_is_numeric f fd) (B : Blt w K mg) (c_are_figures : WP.Callee P w K mg base CX0 2 "are_figures" ["value"] (sp_are_figures K mg)) : FnOk P w K mg base CX0 3 f fd ["word"] (sp_is_numeric K mg) := by
  show D.Box _
  simp (discharger := (with_unfolding_all (
  refine F.ok sc_is_numeric (fun vs H Q E h => ?_) (fun cdv A outer s H vs Q E hr h => ?_)
  · first | (obtain ⟨_, rfl, _⟩ := h; rfl) | (obtain ⟨_, _, rfl, _⟩ := h; rfl) | (obtain ⟨_, _, _, rfl, _⟩ := h; rfl) | (obtain ⟨_, _, _, _, rfl, _⟩ := h; rfl) | (obtain ⟨_, _, _, _, _, rfl, _⟩ := h; rfl) | (obtain ⟨_, _, _, _, _, _, rfl, _⟩ := h; rfl) | (obtain ⟨_, _, _, _, _, _, _, rfl, _⟩ := h; rfl) | (obtain ⟨_, _, _, _, _, _, _, _, rfl, _⟩ := h; rfl) | (obtain ⟨rfl, _⟩ := h; rfl)
  · obtain ⟨l, rfl, hl, ok, hT, k⟩ := h
    refine ⟨_, (pss_one (ps_ret (pe_or (WP.pe_callC c_are_figures hr rfl pass0 (WP.pa_consN (pe_slice sl_str (pv 0) po_none (po_some pe_int)) pa_nil)) (pe_one (pe_and (pe_bm PySem.F.plainAttrs_str PySem.F.slot_str_startswith PySem.F.type_str_startswith mt_startswith (pv 0) (WP.pa_consN (WP.pe_strL [45] (by decide +kernel)) pa_nil)) (pe_one (pe_cmpR op_gt (pe_callB WP.c_len (by rfl) B.b_len (by decide +kernel) (WP.pa_consN (pv 0) pa_nil)) pe_int (nomark _)))))))), ?_⟩
    have hz : l.length ≤ sizeLine := by rw [sizeLine_eq]; omega
    k_updF
    refine WP.slTo (by decide) hz ?_
    rw [show (1 : Int).toNat = 1 from rfl]
    k_updF
    refine ⟨_, rfl, .str (by rw [List.length_take]; omega) (fun c hc => ok c (List.mem_of_mem_take hc)), hT, fun H1 e1 => ?_⟩
    k_updF
    rw [MW.onS_S]
    unfold numB at k
    have k1 : ∀ b, b = (MW.figs (l.take 1) || (decide (l.head? = some 45) && decide (1 < l.length))) → Q (.bl b) H1 := fun b e => by rw [e]; exact k H1 e1
    cases c0 : MW.figs (l.take 1) with
    | true =>
      refine WP.brT rfl ?_
      exact k1 _ (by rw [c0]; rfl)
    | false =>
      refine WP.brF rfl ?_
      k_updF
      refine ⟨_, _, rfl, rfl, ?_⟩
      rw [MT.starts_S]
      k_updF
      by_cases c1 : l.head? = some 45
      · refine WP.brT (decide_eq_true c1) ?_
        k_updF
        refine WP.lenS' hz ?_
        k_updF
        refine k1 _ ?_
        rw [c0, decide_eq_true c1, Bool.false_or, Bool.true_and]
        exact decide_eq_decide.mpr ⟨fun h => by omega, fun h => by omega⟩
      · refine WP.brF (decide_eq_false c1) ?_
        refine k1 _ ?_
        rw [c0, decide_eq_false c1]
        rfl
  ))) only [D.box_eq]
end
abbrev s_normal : Stmt := top 21
abbrev N_normal : List Str := ["units", "scale"]
theorem sc_normal : FnScope N_normal ["units", "scale"] (defScope s_normal) := ⟨rfl, rfl, rfl, by decide +kernel, rfl, by decide +kernel, by decide +kernel⟩
def sp_normal (K : PySem.W.Frag) (mg : WP.MG) : Sp := fun vs H Q _ => ∃ u s : Int, vs = [.int u, .int s] ∧ 0 ≤ s ∧ WP.RetT (WP.dv (MD.nrm u s.toNat).1 (MD.nrm u s.toNat).2) H Q
section
variable {P : Program} {w : World} {K : PySem.W.Frag} {mg : Str → Option Value} {base : Heap}
theorem ok_normal {f : Addr} {fd : FuncData} (F : Fun K "normal" "normal" s_normal f fd) (B : Blt w K mg)  : FnOk P w K mg base CX0 1 f fd ["units", "scale"] (sp_normal K mg) := by
  show D.Box _
  simp (discharger := (with_unfolding_all (
  refine F.ok sc_normal (fun vs H Q E h => ?_) (fun cdv A outer s H vs Q E hr h => ?_)
  · first | (obtain ⟨_, rfl, _⟩ := h; rfl) | (obtain ⟨_, _, rfl, _⟩ := h; rfl) | (obtain ⟨_, _, _, rfl, _⟩ := h; rfl) | (obtain ⟨_, _, _, _, rfl, _⟩ := h; rfl) | (obtain ⟨_, _, _, _, _, rfl, _⟩ := h; rfl) | (obtain ⟨_, _, _, _, _, _, rfl, _⟩ := h; rfl) | (obtain ⟨_, _, _, _, _, _, _, rfl, _⟩ := h; rfl) | (obtain ⟨_, _, _, _, _, _, _, _, rfl, _⟩ := h; rfl) | (obtain ⟨rfl, _⟩ := h; rfl)
  · obtain ⟨u, s', rfl, hs, k⟩ := h
    refine ⟨_, (pss_cons (ps_while PassesOwn.never (PW.pt (pw_and (pt_cmpR op_gt (pv 1) pe_int (nomark _)) (pw_and1 (pt_cmpR op_eq (pe_op op_mod (pv 0) pe_int) pe_int (nomark _))))) (pss_cons (ps_set (i := 0) sc_normal.nd rfl (Or.inl rfl) (pe_op op_fdiv (pv 0) pe_int))
      (pss_one (ps_set (i := 1) sc_normal.nd rfl (Or.inl rfl) (pe_op op_sub (pv 1) pe_int)))))
      (pss_one (ps_ret (pe_tup (WP.pa_consN (pv 0) (WP.pa_consN (pv 1) pa_nil)))))), ?_⟩
    k_updF
    refine ⟨fun m σ H' => ∃ (a : Int) (n : Nat), σ = [some (.int a), some (.int (n : Int))] ∧ H' = H ∧ n = m ∧ MD.nrm a n = MD.nrm u s'.toNat, ⟨s'.toNat, u, s'.toNat, by rw [Int.toNat_of_nonneg hs]; rfl, rfl, rfl, rfl⟩, ?_⟩
    rintro m σ H' ⟨a, n, rfl, rfl, rfl, e⟩
    k_updF
    refine WP.br (fun c => ?_) (fun c => ?_)
    · k_updF
      refine WP.iC (show (0 : Int) < 10 by decide) ?_
      k_updF
      obtain ⟨n', rfl⟩ : ∃ n', n = n' + 1 := ⟨n - 1, by omega⟩
      refine WP.br (fun z => ?_) (fun z => ?_)
      · refine ⟨fun σ' H2 => ∃ m', m' < n' + 1 ∧ ∃ (a : Int) (n : Nat), σ' = [some (.int a), some (.int (n : Int))] ∧ H2 = H' ∧ n = m' ∧ MD.nrm a n = MD.nrm u s'.toNat, fun _ _ x => x, ?_⟩
        k_updF
        refine WP.iC ⟨by decide, by decide⟩ ?_
        k_updF
        refine ⟨n', by omega, a / 10, n', ?_, rfl, rfl, ?_⟩
        · rw [show ((n' + 1 : Nat) : Int) - 1 = (n' : Int) by omega]; rfl
        · rw [← e]
          show _ = if a % 10 = 0 then _ else _
          rw [if_pos z]
      · k_updF
        refine ⟨by show 2 ≤ sizeLine; exact WP.sz2, ?_⟩
        rw [← e, MD.nrm_self (.inr z)] at k
        exact k.new (Same.refl _)
    · k_updF
      obtain rfl : n = 0 := by omega
      refine WP.brF rfl ?_
      k_updF
      refine ⟨WP.sz2, ?_⟩
      rw [← e] at k
      exact k.new (Same.refl _)
  ))) only [D.box_eq]
end
abbrev s__is_whole : Stmt := top 23
abbrev N__is_whole : List Str := ["text"]
theorem sc__is_whole : FnScope N__is_whole ["text"] (defScope s__is_whole) := ⟨rfl, rfl, rfl, by decide +kernel, rfl, by decide +kernel, by decide +kernel⟩
def sp__is_whole (K : PySem.W.Frag) (mg : WP.MG) : Sp := fun vs H Q _ => ∃ l : List Nat, vs = [.str (SX.S l)] ∧ l.length ≤ 1000 ∧ (∀ c ∈ l, c < 128) ∧ GxR.TabG H (WP.tbl K "_has_only") ∧ WP.MetV (.bl (MT.whole l)) H Q
section
variable {P : Program} {w : World} {K : PySem.W.Frag} {mg : Str → Option Value} {base : Heap}
theorem ok__is_whole {f : Addr} {fd : FuncData} (F : Fun K "_is_whole" "_is_whole" s__is_whole f fd) (B : Blt w K mg) (c_are_figures : WP.Callee P w K mg base CX0 2 "are_figures" ["value"] (sp_are_figures K mg)) : FnOk P w K mg base CX0 3 f fd ["text"] (sp__is_whole K mg) := by
  show D.Box _
  simp (discharger := (with_unfolding_all (
  refine F.ok sc__is_whole (fun vs H Q E h => ?_) (fun cdv A outer s H vs Q E hr h => ?_)
  · first | (obtain ⟨_, rfl, _⟩ := h; rfl) | (obtain ⟨_, _, rfl, _⟩ := h; rfl) | (obtain ⟨_, _, _, rfl, _⟩ := h; rfl) | (obtain ⟨_, _, _, _, rfl, _⟩ := h; rfl) | (obtain ⟨_, _, _, _, _, rfl, _⟩ := h; rfl) | (obtain ⟨_, _, _, _, _, _, rfl, _⟩ := h; rfl) | (obtain ⟨_, _, _, _, _, _, _, rfl, _⟩ := h; rfl) | (obtain ⟨_, _, _, _, _, _, _, _, rfl, _⟩ := h; rfl) | (obtain ⟨rfl, _⟩ := h; rfl)
  · obtain ⟨l, rfl, hl, ok, hT, k⟩ := h
    refine ⟨_, (pss_one (ps_ret (pe_and (WP.pe_callC c_are_figures hr rfl pass0 (WP.pa_consN (pv 0) pa_nil)) (pe_one (pe_or (pe_cmpR op_eq (pv 0) (WP.pe_strL [48] (by decide +kernel)) (nomark _)) (pe_one (pe_cmpR op_ne (pe_ix ix_str (pv 0) pe_int (fun _ _ => rfl)) (WP.pe_strL [48] (by decide +kernel)) (nomark _)))))))), ?_⟩
    k_updF
    refine ⟨_, rfl, .str hl ok, hT, fun H1 e1 => ?_⟩
    rw [MW.onS_S]
    k_updF
    unfold MT.whole at k
    cases hf : MW.figs l with
    | false =>
      refine WP.brF rfl ?_
      rw [hf] at k
      exact k _ e1
    | true =>
      refine WP.brT rfl ?_
      rw [hf, Bool.true_and] at k
      k_updF
      refine WP.br (fun c => ?_) (fun c => ?_)
      · rw [decide_eq_true c] at k
        exact k _ e1
      · rw [decide_eq_false c, Bool.false_or] at k
        k_updF
        have hne := (MW.figs_all hf).1
        have hp := List.length_pos_iff.mpr hne
        refine WP.ixS1 (MW.ends hp).1 (by rw [sizeLine_eq]; omega) ?_
        k_updF
        generalize l.headD 0 = x at k
        rw [show decide ([x] = [48]) = decide (x = 48) by congr 1; exact propext ⟨fun z => by simpa using z, fun z => by rw [z]⟩]
        exact k _ e1
  ))) only [D.box_eq]
end
abbrev s_parse : Stmt := top 22
abbrev N_parse : List Str := ["text", "figures", "whole", "point", "fraction", "units"]
theorem sc_parse : FnScope N_parse ["text"] (defScope s_parse) := ⟨rfl, rfl, rfl, by decide +kernel, rfl, by decide +kernel, by decide +kernel⟩
def sp_parse (K : PySem.W.Frag) (mg : WP.MG) : Sp := fun vs H Q E => ∃ l : List Nat, vs = [.str (SX.S l)] ∧ l.length ≤ 1000 ∧ (∀ c ∈ l, c < 128) ∧ GxR.TabG H (WP.tbl K "_has_only") ∧
  (MT.spell l = none → ∀ H', WP.Sm H H' → E (.ref (WP.ca mg "BadDecimal")) none H') ∧ (∀ u s, MT.spell l = some (u, s) → WP.MetT (WP.dv u s) H Q)
section
variable {P : Program} {w : World} {K : PySem.W.Frag} {mg : Str → Option Value} {base : Heap}
theorem ok_parse {f : Addr} {fd : FuncData} (F : Fun K "parse" "parse" s_parse f fd) (B : Blt w K mg) (c_normal : WP.Callee P w K mg base CX0 1 "normal" ["units", "scale"] (sp_normal K mg)) (c__is_whole : WP.Callee P w K mg base CX0 3 "_is_whole" ["text"] (sp__is_whole K mg)) (c_are_figures : WP.Callee P w K mg base CX0 2 "are_figures" ["value"] (sp_are_figures K mg)) : FnOk P w K mg base (L2N.CX P w) 4 f fd ["text"] (sp_parse K mg) := by
  show D.Box _
  simp (discharger := (with_unfolding_all (
  refine WP.okN F sc_parse (fun vs H Q E h => ?_) (fun cdv A outer s H vs Q E hr h => ?_)
  · first | (obtain ⟨_, rfl, _⟩ := h; rfl) | (obtain ⟨_, _, rfl, _⟩ := h; rfl) | (obtain ⟨_, _, _, rfl, _⟩ := h; rfl) | (obtain ⟨_, _, _, _, rfl, _⟩ := h; rfl) | (obtain ⟨_, _, _, _, _, rfl, _⟩ := h; rfl) | (obtain ⟨_, _, _, _, _, _, rfl, _⟩ := h; rfl) | (obtain ⟨_, _, _, _, _, _, _, rfl, _⟩ := h; rfl) | (obtain ⟨_, _, _, _, _, _, _, _, rfl, _⟩ := h; rfl) | (obtain ⟨rfl, _⟩ := h; rfl)
  · obtain ⟨l, rfl, hl, ok, hT, kE, kQ⟩ := h
    refine ⟨_, (Evl.pss_cut (ps_set (i := 1) sc_parse.nd rfl (Or.inl rfl) (pe_ifExp (pt_val (pe_bm PySem.F.plainAttrs_str PySem.F.slot_str_startswith PySem.F.type_str_startswith mt_startswith (pv 0) (WP.pa_consN (WP.pe_strL [45] (by decide +kernel)) pa_nil))) (pe_slice sl_str (pv 0) (po_some pe_int) po_none) (pv 0)))
      (pss_cons (ps_asg (pe_bm PySem.F.plainAttrs_str PySem.F.slot_str_partition PySem.F.type_str_partition mt_partition (pv 1) (WP.pa_consN (WP.pe_strL [46] (by decide +kernel)) pa_nil)) (pg_tup (by rfl) (pgs_cons (pg_name (i := 2) sc_parse.nd rfl (Or.inl rfl)) (pgs_cons (pg_name (i := 3) sc_parse.nd rfl (Or.inl rfl)) (pgs_cons (pg_name (i := 4) sc_parse.nd rfl (Or.inl rfl)) pgs_nil)))))
      (pss_cons (ps_if (PW.pt (pw_or (pt_not (pt_val (WP.pe_callC c__is_whole hr rfl pass0 (WP.pa_consN (pv 2) pa_nil)))) (pw_or1 (PW.pt (pw_and (pt_cmpR op_ne (pv 3) (WP.pe_strL [] (by decide +kernel)) (nomark _)) (pw_and1 (pt_not (pt_val (WP.pe_callC c_are_figures hr rfl pass0 (WP.pa_consN (pv 4) pa_nil)))))))))) (pss_one (WP.ps_raiseCN rfl (L2N.takes_of rfl rfl rfl rfl) B.e_BadDecimal (by exact rfl))) pss_nil)
      (pss_cons (ps_if (pt_cmpR op_gt (pe_op op_add (pe_callB WP.c_len (by rfl) B.b_len (by decide +kernel) (WP.pa_consN (pv 2) pa_nil)) (pe_callB WP.c_len (by rfl) B.b_len (by decide +kernel) (WP.pa_consN (pv 4) pa_nil))) (WP.pe_const (by rfl) B.c_MOST_DIGITS) (nomark _)) (pss_one (WP.ps_raiseCN rfl (L2N.takes_of rfl rfl rfl rfl) B.e_BadDecimal (by exact rfl))) pss_nil)
      (pss_cons (ps_set (i := 5) sc_parse.nd rfl (Or.inl rfl) (pe_callTy WP.c_intS (by rfl) B.b_int (by decide +kernel) (WP.pa_consN (pe_op WP.op_addS (pv 2) (pv 4)) pa_nil)))
      (pss_one (ps_ret (WP.pe_callC c_normal hr rfl pass0 (WP.pa_consN (pe_ifExp (pt_cmpR op_eq (pv 1) (pv 0) (nomark _)) (pv 5) (pe_un un_neg (pv 5))) (WP.pa_consN (pe_callB WP.c_len (by rfl) B.b_len (by decide +kernel) (WP.pa_consN (pv 4) pa_nil)) pa_nil)))))))))), ?_⟩
    have hz : l.length ≤ sizeLine := by rw [sizeLine_eq]; omega
    refine WP.cut (fun σ' H' => H' = H ∧ σ' = [some (.str (SX.S l)), some (.str (SX.S (MT.bodyOf l))), none, none, none, none]) ?_ ?_
    · k_updF
      refine ⟨_, _, rfl, rfl, ?_⟩
      rw [MT.starts_S]
      k_updF
      refine WP.br (fun c => ?_) (fun c => ?_)
      · k_updF
        refine WP.slFrom (by decide) hz ?_
        k_updF
        refine ⟨rfl, ?_⟩
        rw [show MT.bodyOf l = l.drop (1 : Int).toNat by unfold MT.bodyOf MT.isNeg; rw [if_pos (decide_eq_true c)]; rfl]
        rfl
      · k_updF
        refine ⟨rfl, ?_⟩
        rw [show MT.bodyOf l = l by unfold MT.bodyOf MT.isNeg; rw [if_neg (by rw [decide_eq_false c]; exact Bool.false_ne_true)]]
        rfl
    rintro σ' H' ⟨rfl, rfl⟩
    have hb := MT.body_len l
    have hbm := fun c => MT.body_mem (l := l) (c := c)
    have hbe := MT.body_eq l
    rw [MT.spell_def] at kE kQ
    generalize MT.bodyOf l = b at hb hbm hbe kE kQ ⊢
    generalize MT.isNeg l = ng at hbe kE kQ
    k_updF
    refine ⟨_, _, rfl, rfl, rfl, by rw [SX.S_len, sizeLine_eq]; omega, fun p hp => ?_⟩
    refine WP.unT (SqT.of upd_same) rfl ?_
    rw [MT.part_S]
    have e1 : Same H' (upd H' p (.tup [.str (Txt.partition (SX.S b) (SX.S [46])).1, .str (Txt.partition (SX.S b) (SX.S [46])).2.1, .str (Txt.partition (SX.S b) (SX.S [46])).2.2])) := WP.same_new hp
    rw [MT.part_S] at e1
    generalize upd H' p _ = H1 at e1 ⊢
    k_updF
    have hwm : ∀ c ∈ MT.cutW 46 b, c < 128 := fun c h => ok c (hbm c (MT.cutW_mem h))
    have hwl : (MT.cutW 46 b).length ≤ b.length := by
      cases e : MT.cutR 46 b with
      | none => rw [(MT.cut_none e).1]; exact Nat.le_refl _
      | some r => have := MT.cutR_len e; omega
    refine ⟨_, rfl, by omega, hwm, (WP.Sm.of e1).t _ hT, fun H2 e2 => ?_⟩
    have e2 := (WP.Sm.of e1).trans e2
    k_updF
    have hzw : (MT.cutW 46 b).length ≤ sizeLine := by rw [sizeLine_eq]; omega
    cases e : MT.cutR 46 b with
    | none =>
      rw [e, MT.spellB_none] at kE kQ
      cases hw : MT.whole (MT.cutW 46 b) with
      | false =>
        refine WP.brT rfl ?_
        refine WP.brT rfl ?_
        exact kE (by rw [hw]; rfl) _ e2
      | true =>
        refine WP.brF rfl ?_
        k_updF
        refine WP.brF rfl ?_
        refine WP.brF rfl ?_
        k_updF
        refine WP.lenS' hzw ?_
        k_updF
        refine WP.lenS' (l := []) (by rw [sizeLine_eq]; decide) ?_
        k_updF
        have hw' : MW.figs (MT.cutW 46 b) = true := by
          unfold MT.whole at hw
          rw [Bool.and_eq_true] at hw
          exact hw.1
        obtain ⟨hne, hfa⟩ := MW.figs_all hw'
        refine WP.br (fun c => ?_) (fun c => ?_)
        · exact kE (if_neg (fun z => by have := z.2; simp at c; omega)) _ e2
        · have c' : (MT.cutW 46 b).length ≤ 18 := by simp at c; omega
          rw [if_pos ⟨hw, c'⟩] at kQ
          k_updF
          refine WP.catS ?_ (by rw [sizeLine_eq]; simp; omega)
          rw [Option.getD_none, List.append_nil]
          k_updF
          refine WP.intSd hfa hne (by omega) ?_
          k_updF
          rw [hbe]
          have kk := kQ _ _ rfl
          cases ng with
          | true =>
            refine WP.brF rfl ?_
            k_updF
            refine WP.lenS' (l := []) (by rw [sizeLine_eq]; decide) ?_
            k_updF
            exact ⟨_, _, rfl, by decide, fun p H3 e3 hp => kk p H3 (e2.trans (.of e3)) hp⟩
          | false =>
            refine WP.brT rfl ?_
            k_updF
            refine WP.lenS' (l := []) (by rw [sizeLine_eq]; decide) ?_
            k_updF
            exact ⟨_, _, rfl, by decide, fun p H3 e3 hp => kk p H3 (e2.trans (.of e3)) hp⟩
    | some f =>
      rw [e, MT.spellB_some] at kE kQ
      have hfl := MT.cutR_len e
      have hfm : ∀ c ∈ f, c < 128 := fun c h => ok c (hbm c (MT.cutR_mem e h))
      have hzf : f.length ≤ sizeLine := by rw [sizeLine_eq]; omega
      cases hw : MT.whole (MT.cutW 46 b) with
      | false =>
        refine WP.brT rfl ?_
        refine WP.brT rfl ?_
        exact kE (if_neg fun z => by rw [hw] at z; cases z.1) _ e2
      | true =>
        refine WP.brF rfl ?_
        k_updF
        refine WP.brT rfl ?_
        k_updF
        refine ⟨_, rfl, .str (by rw [Option.getD_some]; omega) (by rw [Option.getD_some]; exact hfm), e2.t _ hT, fun H3 e3 => ?_⟩
        have e3 := e2.trans e3
        rw [MW.onS_S, Option.getD_some]
        k_updF
        cases hf : MW.figs f with
        | false =>
          refine WP.brT rfl ?_
          exact kE (if_neg fun z => by rw [hf] at z; cases z.2.1) _ e3
        | true =>
          refine WP.brF rfl ?_
          k_updF
          refine WP.lenS' hzw ?_
          k_updF
          refine WP.lenS' hzf ?_
          k_updF
          have hw' : MW.figs (MT.cutW 46 b) = true := by
            unfold MT.whole at hw
            rw [Bool.and_eq_true] at hw
            exact hw.1
          obtain ⟨hne, hfa⟩ := MW.figs_all hw'
          obtain ⟨fne, ffa⟩ := MW.figs_all hf
          refine WP.br (fun c => ?_) (fun c => ?_)
          · exact kE (if_neg (fun z => by have := z.2.2; omega)) _ e3
          · rw [if_pos ⟨hw, hf, by omega⟩] at kQ
            k_updF
            refine WP.catS ?_ (by rw [sizeLine_eq]; omega)
            k_updF
            refine WP.intSd (by rw [List.all_append, hfa, ffa]; rfl) (fun z => hne (List.append_eq_nil_iff.mp z).1) (by rw [List.length_append]; omega) ?_
            k_updF
            rw [hbe]
            have kk := kQ _ _ rfl
            cases ng with
            | true =>
              refine WP.brF rfl ?_
              k_updF
              refine WP.lenS' hzf ?_
              k_updF
              exact ⟨_, _, rfl, by omega, fun p H4 e4 hp => kk p H4 (e3.trans (.of e4)) hp⟩
            | false =>
              refine WP.brT rfl ?_
              k_updF
              refine WP.lenS' hzf ?_
              k_updF
              exact ⟨_, _, rfl, by omega, fun p H4 e4 hp => kk p H4 (e3.trans (.of e4)) hp⟩
  ))) only [D.box_eq]
end
abbrev s_Cursor_take_decimal : Stmt := inClass (top 27) 10
abbrev N_Cursor_take_decimal : List Str := ["self", "word", "value"]
theorem sc_Cursor_take_decimal : FnScope N_Cursor_take_decimal ["self"] (defScope s_Cursor_take_decimal) := ⟨rfl, rfl, rfl, by decide +kernel, rfl, by decide +kernel, by decide +kernel⟩
def sp_Cursor_take_decimal (K : PySem.W.Frag) (mg : WP.MG) : Sp := fun vs H Q E => ∃ (a : Addr) (c : Cu) (n : Nat), vs = [.ref a] ∧ CurA K mg H a c n ∧ GxR.TabG H (WP.tbl K "_has_only") ∧
  (numB (nxt c.rs n false) = false → BPc mg H a c n E (.int (rowC c.rs n : Nat)) (.str (SX.S (rsn c.rs n kWORD)))) ∧
  (numB (nxt c.rs n false) = true → MT.spell (nxt c.rs n false) = none → BPc mg H a c n E (.int (rowC c.rs n : Nat)) (.str (SX.S kVALU))) ∧
  (numB (nxt c.rs n false) = true → ∀ u s, MT.spell (nxt c.rs n false) = some (u, s) → ∀ p H', WP.Sn a H H' → H' a = some (cuO mg c (n + 1)) → SqT K H' p (WP.dv u s) → Q (.ref p) H')
section
variable {P : Program} {w : World} {K : PySem.W.Frag} {mg : Str → Option Value} {base : Heap}
theorem ok_Cursor_take_decimal {f : Addr} {fd : FuncData} (F : Fun K "take_decimal" "Cursor.take_decimal" s_Cursor_take_decimal f fd) (B : Blt w K mg) (c_Cursor_peek : WP.CalleeM P w K mg base CX0 3 "Cursor" "peek" ["self"] (sp_Cursor_peek K mg)) (c_is_numeric : WP.Callee P w K mg base CX0 3 "is_numeric" ["word"] (sp_is_numeric K mg)) (c_Cursor__refuse : WP.CalleeM P w K mg base (L2.CX P w) 3 "Cursor" "_refuse" ["self", "reason"] (sp_Cursor__refuse K mg)) (c_parse : WP.Callee P w K mg base (L2N.CX P w) 4 "parse" ["text"] (sp_parse K mg)) (c_BadProgram___init__ : WP.CalleeE P w K mg base CX0 1 "BadProgram" ["self", "line", "reason"] (sp_BadProgram___init__ K mg)) (c_Cursor_row : WP.CalleeP P w K mg base CX0 1 "Cursor" "row" ["self"] (sp_Cursor_row K mg)) (ch_BadProgram___init__ : WP.CalleeEH P w K mg base CX0 1 "BadProgram" ["self", "line", "reason"] (sp_BadProgram___init__ K mg)) (ch_Cursor_row : WP.CalleePH P w K mg base CX0 1 "Cursor" "row" ["self"] (sp_Cursor_row K mg)) : FnOk P w K mg base (L2.CX P w) 5 f fd ["self"] (sp_Cursor_take_decimal K mg) := by
  show D.Box _
  simp (discharger := (with_unfolding_all (
  obtain ⟨f_Cursor_peek, d_Cursor_peek, F_Cursor_peek, M_Cursor_peek, b_Cursor_peek⟩ := c_Cursor_peek.ex
  obtain ⟨f_Cursor__refuse, d_Cursor__refuse, F_Cursor__refuse, M_Cursor__refuse, b_Cursor__refuse⟩ := c_Cursor__refuse.ex
  refine F.okX sc_Cursor_take_decimal (fun vs H Q E h => ?_) (fun cdv A outer s H vs Q E hr h => ?_)
  · first | (obtain ⟨_, rfl, _⟩ := h; rfl) | (obtain ⟨_, _, rfl, _⟩ := h; rfl) | (obtain ⟨_, _, _, rfl, _⟩ := h; rfl) | (obtain ⟨_, _, _, _, rfl, _⟩ := h; rfl) | (obtain ⟨_, _, _, _, _, rfl, _⟩ := h; rfl) | (obtain ⟨_, _, _, _, _, _, rfl, _⟩ := h; rfl) | (obtain ⟨_, _, _, _, _, _, _, rfl, _⟩ := h; rfl) | (obtain ⟨_, _, _, _, _, _, _, _, rfl, _⟩ := h; rfl) | (obtain ⟨rfl, _⟩ := h; rfl)
  · obtain ⟨a, c, n, rfl, h, hT, kW, kV, kQ⟩ := h
    refine ⟨_, (pss_cons (ps_set (i := 1) sc_Cursor_take_decimal.nd rfl (Or.inl rfl) (pe_meth0 (pv 0) B.k_Cursor.c M_Cursor_peek F_Cursor_peek (hr.mono (by decide)) b_Cursor_peek .nil pass0))
      (pss_cons (ps_if (pt_not (pt_val (WP.pe_callC c_is_numeric hr rfl pass0 (WP.pa_consN (pv 1) pa_nil)))) (pss_one (ps_expr (pe_meth (pv 0) B.k_Cursor.c M_Cursor__refuse F_Cursor__refuse (hr.mono (by decide)) b_Cursor__refuse .nil (WP.passX rfl rfl rfl rfl) (WP.pa_consN (WP.pe_strL [119, 111, 114, 100] (by decide +kernel)) pa_nil)))) pss_nil)
      (pss_cons (L2H.ps_try_onlyX (tb := fun W => (tAsg (tCallS (sp_parse K mg) (WE W) (tCons (tVar 1) tNil)) (gName 2))) (ts := fun a cls d => (fun D σ H => tMkO (WP.ca mg "BadProgram") (sp_BadProgram___init__ K mg) [] (tCons (WP.tPropC (WP.ca mg "Cursor") (sp_Cursor_row K mg) (tVar 0)) (tCons (tC (.str (SX.S [118, 97, 108, 117, 101]))) tNil)) σ H fun cls d H' => E cls d H')) (Wout := fun cls d _ H => E cls d H) rfl rfl ⟨rfl, by decide, Or.inl B.e_BadDecimal.m⟩ (fun hd => L2H.passesAt_of rfl hd) (takes_of rfl rfl rfl rfl)
        (fun W pn xe tk tk2 _ => (pss_one (ps_set (i := 2) sc_Cursor_take_decimal.nd rfl (Or.inl rfl) (WP.pe_callSN c_parse hr rfl (fun σ => L2N.passAt tk σ) (WP.pa_consN (pv 1) pa_nil)))))
        (fun a oe cls d pn hz hf tkS hc => (pss_one (WP.ps_raiseFN hc tkS B.xi_BadProgram ch_BadProgram___init__ (L2H.roomH_mark hr _) (by rfl) (WP.pa_consN (WP.pe_propH (pv 0) B.k_Cursor ch_Cursor_row (L2H.roomH_mark hr _) hc) (WP.pa_consN (WP.pe_strL [118, 97, 108, 117, 101] (by decide +kernel)) pa_nil))))))
      (pss_cons (ps_fld (pv 0) (pe_op op_add (pe_fld (pv 0) rfl) pe_int) rfl)
      (pss_one (ps_ret (pv 2))))))), ?_⟩
    k_updF
    refine WP.methV rfl h.o rfl ?_
    k_updF
    refine ⟨a, c, n, rfl, h, ?_⟩
    k_updF
    have hw := h.wd false
    refine ⟨_, rfl, hw.1, hw.2, hT, fun H1 e1 => ?_⟩
    k_updF
    have h1 := h.sm e1
    cases e : numB (nxt c.rs n false) with
    | false =>
      refine WP.brT rfl ?_
      k_updF
      refine WP.methV rfl h1.o rfl ?_
      k_updF
      exact ⟨a, c, n, kWORD, rfl, h1, h.bp e1 (kW e)⟩
    | true =>
      refine WP.brF rfl ?_
      k_updF
      unfold tCallS
      k_updF
      refine ⟨_, rfl, hw.1, hw.2, (WP.Sm.t e1 _ hT), fun e3 H2 e2 => ?_, fun u s e3 => ?_⟩
      · have h2 := h1.sm e2
        refine ⟨true, B.e_BadDecimal.a.catches B.s_BadDecimal_BadDecimal, fun _ a' na => ?_, fun z => Bool.noConfusion z⟩
        refine WP.mko ?_
        refine WP.propV rfl h2.o ⟨a, c, n, rfl, h2, ?_⟩
        k_updF
        exact raise_BP (h.bp (e1.trans e2) (kV e e3))
      · intro p H2 e2 hp
        have h2 := h1.sm e2
        k_updF
        refine WP.fldV B.k_Cursor rfl h2.o rfl (by decide +kernel) ?_
        k_updF
        refine WP.sfldA B.k_Cursor h2.o (by show 2 < 1000; decide) ?_
        k_updF
        have e5 : WP.Sn a H2 (upd H2 a (cuO mg c (n + 1))) := sn_at h2.o
        exact kQ e u s e3 p _ ((WP.Sn.of (e1.trans e2)).trans e5) upd_same (h2.sqt e5 (SqT.of hp))
  ))) only [D.box_eq]
end
abbrev s_Cursor_take_string : Stmt := inClass (top 27) 11
abbrev N_Cursor_take_string : List Str := ["self", "string"]
theorem sc_Cursor_take_string : FnScope N_Cursor_take_string ["self"] (defScope s_Cursor_take_string) := ⟨rfl, rfl, rfl, by decide +kernel, rfl, by decide +kernel, by decide +kernel⟩
def sp_Cursor_take_string (K : PySem.W.Frag) (mg : WP.MG) : Sp := fun vs H Q E => ∃ (a : Addr) (c : Cu) (n : Nat), vs = [.ref a] ∧ CurA K mg H a c n ∧
  (nxt c.rs n false ≠ [] → BPc mg H a c n E (.int (rowC c.rs n : Nat)) (.str (SX.S (rsn c.rs n kWORD)))) ∧
  (nxt c.rs n false = [] → ¬ (1 ≤ (nxt c.rs n true).length ∧ (nxt c.rs n true).length ≤ 80) → BPc mg H a c n E (.int (rowC c.rs n : Nat)) (.str (SX.S (rsn c.rs n kVALU)))) ∧
  (nxt c.rs n false = [] → 1 ≤ (nxt c.rs n true).length ∧ (nxt c.rs n true).length ≤ 80 → Q (.str (SX.S (nxt c.rs n true))) (upd H a (cuO mg c (n + 1))))
section
variable {P : Program} {w : World} {K : PySem.W.Frag} {mg : Str → Option Value} {base : Heap}
theorem ok_Cursor_take_string {f : Addr} {fd : FuncData} (F : Fun K "take_string" "Cursor.take_string" s_Cursor_take_string f fd) (B : Blt w K mg) (c_Cursor__next_of_kind : WP.CalleeM P w K mg base CX0 2 "Cursor" "_next_of_kind" ["self", "kind"] (sp_Cursor__next_of_kind K mg)) (c_Cursor_peek : WP.CalleeM P w K mg base CX0 3 "Cursor" "peek" ["self"] (sp_Cursor_peek K mg)) (c_Cursor__refuse : WP.CalleeM P w K mg base (L2.CX P w) 3 "Cursor" "_refuse" ["self", "reason"] (sp_Cursor__refuse K mg)) : FnOk P w K mg base (L2.CX P w) 4 f fd ["self"] (sp_Cursor_take_string K mg) := by
  show D.Box _
  simp (discharger := (with_unfolding_all (
  obtain ⟨f_Cursor__next_of_kind, d_Cursor__next_of_kind, F_Cursor__next_of_kind, M_Cursor__next_of_kind, b_Cursor__next_of_kind⟩ := c_Cursor__next_of_kind.ex
  obtain ⟨f_Cursor_peek, d_Cursor_peek, F_Cursor_peek, M_Cursor_peek, b_Cursor_peek⟩ := c_Cursor_peek.ex
  obtain ⟨f_Cursor__refuse, d_Cursor__refuse, F_Cursor__refuse, M_Cursor__refuse, b_Cursor__refuse⟩ := c_Cursor__refuse.ex
  refine F.okX sc_Cursor_take_string (fun vs H Q E h => ?_) (fun cdv A outer s H vs Q E hr h => ?_)
  · first | (obtain ⟨_, rfl, _⟩ := h; rfl) | (obtain ⟨_, _, rfl, _⟩ := h; rfl) | (obtain ⟨_, _, _, rfl, _⟩ := h; rfl) | (obtain ⟨_, _, _, _, rfl, _⟩ := h; rfl) | (obtain ⟨_, _, _, _, _, rfl, _⟩ := h; rfl) | (obtain ⟨_, _, _, _, _, _, rfl, _⟩ := h; rfl) | (obtain ⟨_, _, _, _, _, _, _, rfl, _⟩ := h; rfl) | (obtain ⟨_, _, _, _, _, _, _, _, rfl, _⟩ := h; rfl) | (obtain ⟨rfl, _⟩ := h; rfl)
  · obtain ⟨a, c, n, rfl, h, kW, kV, kQ⟩ := h
    refine ⟨_, (pss_cons (ps_set (i := 1) sc_Cursor_take_string.nd rfl (Or.inl rfl) (pe_meth (pv 0) B.k_Cursor.c M_Cursor__next_of_kind F_Cursor__next_of_kind (hr.mono (by decide)) b_Cursor__next_of_kind .nil pass0 (WP.pa_consN (WP.pe_strL [115, 116, 114, 105, 110, 103] (by decide +kernel)) pa_nil)))
      (pss_cons (ps_if (pt_cmpR op_ne (pe_meth0 (pv 0) B.k_Cursor.c M_Cursor_peek F_Cursor_peek (hr.mono (by decide)) b_Cursor_peek .nil pass0) (WP.pe_strL [] (by decide +kernel)) (nomark _)) (pss_one (ps_expr (pe_meth (pv 0) B.k_Cursor.c M_Cursor__refuse F_Cursor__refuse (hr.mono (by decide)) b_Cursor__refuse .nil (WP.passX rfl rfl rfl rfl) (WP.pa_consN (WP.pe_strL [119, 111, 114, 100] (by decide +kernel)) pa_nil)))) pss_nil)
      (pss_cons (ps_if (pt_not (pt_chain op_le op_le pe_int (pe_callB WP.c_len (by rfl) B.b_len (by decide +kernel) (WP.pa_consN (pv 1) pa_nil)) (WP.pe_const (by rfl) B.c_MOST_TEXT))) (pss_one (ps_expr (pe_meth (pv 0) B.k_Cursor.c M_Cursor__refuse F_Cursor__refuse (hr.mono (by decide)) b_Cursor__refuse .nil (WP.passX rfl rfl rfl rfl) (WP.pa_consN (WP.pe_strL [118, 97, 108, 117, 101] (by decide +kernel)) pa_nil)))) pss_nil)
      (pss_cons (ps_fld (pv 0) (pe_op op_add (pe_fld (pv 0) rfl) pe_int) rfl)
      (pss_one (ps_ret (pv 1))))))), ?_⟩
    k_updF
    refine WP.methV rfl h.o rfl ?_
    k_updF
    refine ⟨a, c, n, true, rfl, h, ?_⟩
    k_updF
    refine WP.methV rfl h.o rfl ?_
    k_updF
    refine ⟨a, c, n, rfl, h, ?_⟩
    k_updF
    by_cases c0 : nxt c.rs n false = []
    · refine WP.brF (by rw [decide_eq_true c0]; rfl) ?_
      k_updF
      refine WP.chain ?_
      k_updF
      have hw := h.wd true
      refine WP.lenS' (by rw [sizeLine_eq]; omega) ?_
      k_updF
      by_cases c1 : 1 ≤ (nxt c.rs n true).length
      · refine WP.brT (decide_eq_true (by omega)) ?_
        k_updF
        by_cases c2 : (nxt c.rs n true).length ≤ 80
        · refine WP.brF (by rw [decide_eq_true (by omega)]; rfl) ?_
          k_updF
          refine WP.fldV B.k_Cursor rfl h.o rfl (by decide +kernel) ?_
          k_updF
          refine WP.sfldA B.k_Cursor h.o (by show 2 < 1000; decide) ?_
          k_updF
          exact kQ c0 ⟨c1, c2⟩
        · refine WP.brT (by rw [decide_eq_false (by omega)]; rfl) ?_
          k_updF
          refine WP.methV rfl h.o rfl ?_
          k_updF
          exact ⟨a, c, n, kVALU, rfl, h, h.bp (.refl _) (kV c0 fun z => c2 z.2)⟩
      · refine WP.brF (decide_eq_false (by omega)) ?_
        k_updF
        refine WP.brT rfl ?_
        k_updF
        refine WP.methV rfl h.o rfl ?_
        k_updF
        exact ⟨a, c, n, kVALU, rfl, h, h.bp (.refl _) (kV c0 fun z => c1 z.1)⟩
    · refine WP.brT (by rw [decide_eq_false c0]; rfl) ?_
      k_updF
      refine WP.methV rfl h.o rfl ?_
      k_updF
      exact ⟨a, c, n, kWORD, rfl, h, h.bp (.refl _) (kW c0)⟩
  ))) only [D.box_eq]
end
abbrev s__law_do : Stmt := top 49
abbrev N__law_do : List Str := ["cursor", "deed", "words", "bound", "error"]
theorem sc__law_do : FnScope N__law_do ["cursor", "deed", "words", "bound"] (defScope s__law_do) := ⟨rfl, rfl, rfl, by decide +kernel, rfl, by decide +kernel, by decide +kernel⟩
def sp__law_do (K : PySem.W.Frag) (mg : WP.MG) : Sp := fun vs H Q _ => ∃ (a W : Addr) (c : Cu) (n D : Nat) (bound : Int) (ws : List (List Nat)), vs = [.ref a, .int (D : Int), .ref W, .int bound] ∧ CurA K mg H a c n ∧ RsOk c.rs ∧ D ≤ 10 ∧ H W = some (.lst (ws.map fun w => .str (SX.S w))) ∧ ws.length = 3 ∧ (∀ w ∈ ws, w ≠ []) ∧ GxR.TabG H (WP.tbl K "_has_only") ∧
  ∀ (p : Addr) (H' : Hp), WP.Sn a H H' → H' a = some (cuO mg c (outX c.rs n D ws bound).2) → OvAt K H' p (outX c.rs n D ws bound).1 → Q (.ref p) H'
section
variable {P : Program} {w : World} {K : PySem.W.Frag} {mg : Str → Option Value} {base : Heap}
theorem ok__law_do {f : Addr} {fd : FuncData} (F : Fun K "_law_do" "_law_do" s__law_do f fd) (B : Blt w K mg) (c_Cursor_accept : WP.CalleeM P w K mg base CX0 4 "Cursor" "accept" ["self", "word"] (sp_Cursor_accept K mg)) (c_Cursor_peek : WP.CalleeM P w K mg base CX0 3 "Cursor" "peek" ["self"] (sp_Cursor_peek K mg)) (c_Cursor_is_done : WP.CalleeM P w K mg base CX0 1 "Cursor" "is_done" ["self"] (sp_Cursor_is_done K mg)) (c_Cursor_row : WP.CalleeP P w K mg base CX0 1 "Cursor" "row" ["self"] (sp_Cursor_row K mg)) (c_Cursor_row_behind : WP.CalleeP P w K mg base CX0 1 "Cursor" "row_behind" ["self"] (sp_Cursor_row_behind K mg)) (c_Cursor_expect : WP.CalleeMS P w K mg base (L2.CX P w) 5 "Cursor" "expect" ["self", "words"] (sp_Cursor_expect K mg)) (c_Cursor_take_name : WP.CalleeM P w K mg base (L2.CX P w) 4 "Cursor" "take_name" ["self"] (sp_Cursor_take_name K mg)) (c_Cursor_take_integer__greatest : WP.CalleeMK P w K mg base (L2.CX P w) 4 "Cursor" "take_integer" ["self", "least", "greatest"] ["greatest"] (fun vs zs => vs ++ ([V.int 0] ++ zs)) (sp_Cursor_take_integer K mg)) (c_Cursor_take_integer__least_greatest : WP.CalleeMK P w K mg base (L2.CX P w) 4 "Cursor" "take_integer" ["self", "least", "greatest"] ["least", "greatest"] (fun vs zs => vs ++ ([] ++ zs)) (sp_Cursor_take_integer K mg)) (c_Cursor_take_decimal : WP.CalleeM P w K mg base (L2.CX P w) 5 "Cursor" "take_decimal" ["self"] (sp_Cursor_take_decimal K mg)) (c_Cursor_take_string : WP.CalleeM P w K mg base (L2.CX P w) 4 "Cursor" "take_string" ["self"] (sp_Cursor_take_string K mg)) : FnOk P w K mg base CX0 6 f fd ["cursor", "deed", "words", "bound"] (sp__law_do K mg) := by
  show D.Box _
  simp (discharger := (with_unfolding_all (
  obtain ⟨f_Cursor_accept, d_Cursor_accept, F_Cursor_accept, M_Cursor_accept, b_Cursor_accept⟩ := c_Cursor_accept.ex
  obtain ⟨f_Cursor_peek, d_Cursor_peek, F_Cursor_peek, M_Cursor_peek, b_Cursor_peek⟩ := c_Cursor_peek.ex
  obtain ⟨f_Cursor_is_done, d_Cursor_is_done, F_Cursor_is_done, M_Cursor_is_done, b_Cursor_is_done⟩ := c_Cursor_is_done.ex
  obtain ⟨f_Cursor_take_name, d_Cursor_take_name, F_Cursor_take_name, M_Cursor_take_name, b_Cursor_take_name⟩ := c_Cursor_take_name.ex
  obtain ⟨f_Cursor_take_decimal, d_Cursor_take_decimal, F_Cursor_take_decimal, M_Cursor_take_decimal, b_Cursor_take_decimal⟩ := c_Cursor_take_decimal.ex
  obtain ⟨f_Cursor_take_string, d_Cursor_take_string, F_Cursor_take_string, M_Cursor_take_string, b_Cursor_take_string⟩ := c_Cursor_take_string.ex
  refine F.ok sc__law_do (fun vs H Q E h => ?_) (fun cdv A outer s H vs Q E hr h => ?_)
  · first | (obtain ⟨_, rfl, _⟩ := h; rfl) | (obtain ⟨_, _, rfl, _⟩ := h; rfl) | (obtain ⟨_, _, _, rfl, _⟩ := h; rfl) | (obtain ⟨_, _, _, _, rfl, _⟩ := h; rfl) | (obtain ⟨_, _, _, _, _, rfl, _⟩ := h; rfl) | (obtain ⟨_, _, _, _, _, _, rfl, _⟩ := h; rfl) | (obtain ⟨_, _, _, _, _, _, _, rfl, _⟩ := h; rfl) | (obtain ⟨_, _, _, _, _, _, _, _, rfl, _⟩ := h; rfl) | (obtain ⟨rfl, _⟩ := h; rfl)
  · obtain ⟨a, W, c, n, D, bound, ws, rfl, hc, ok, hD, hW, hwl, hne, hT, k⟩ := h
    refine ⟨_, (pss_cons (ps_try_as (i := 4) (tb := fun W => (tSeq (tIfS (tTest (tOp rEq (tVar 1) (tC (.int 5)))) (tRet (tTup (tCons (tC (.str (SX.S [118, 97, 108, 117, 101]))) (tCons (WP.tMethS (WP.ca mg "Cursor") "expect" (sp_Cursor_expect K mg) (fun cls d H => ∀ σ : L2.St, σ.length = 5 → W cls d σ H) (tVar 0) (tCons (tOp (rIxL K) (tVar 2) (tC (.int 0))) (tCons (tOp (rIxL K) (tVar 2) (tC (.int 1))) (tCons (tOp (rIxL K) (tVar 2) (tC (.int 2))) tNil)))) tNil)))) tNext) (tSeq (tIfS (tTest (tOp rEq (tVar 1) (tC (.int 6)))) (tRet (tTup (tCons (tC (.str (SX.S [118, 97, 108, 117, 101]))) (tCons (tMeth (WP.ca mg "Cursor") "take_name" (sp_Cursor_take_name K mg) [] (fun cls d H => ∀ σ : L2.St, σ.length = 5 → W cls d σ H) (tVar 0) tNil) tNil)))) tNext) (tSeq (tIfS (tTest (tOp rEq (tVar 1) (tC (.int 7)))) (tRet (tTup (tCons (tC (.str (SX.S [118, 97, 108, 117, 101]))) (tCons (WP.tMethK (WP.ca mg "Cursor") "take_integer" 1 (sp_Cursor_take_integer K mg) (fun vs zs => vs ++ ([V.int 0] ++ zs)) (fun cls d H => ∀ σ : L2.St, σ.length = 5 → W cls d σ H) (tVar 0) (tCons (tVar 3) tNil)) tNil)))) tNext) (tSeq (tIfS (tTest (tOp rEq (tVar 1) (tC (.int 8)))) (tRet (tTup (tCons (tC (.str (SX.S [118, 97, 108, 117, 101]))) (tCons (WP.tMethK (WP.ca mg "Cursor") "take_integer" 2 (sp_Cursor_take_integer K mg) (fun vs zs => vs ++ ([] ++ zs)) (fun cls d H => ∀ σ : L2.St, σ.length = 5 → W cls d σ H) (tVar 0) (tCons (tC (.int 7)) (tCons (tVar 3) tNil))) tNil)))) tNext) (tSeq (tIfS (tTest (tOp rEq (tVar 1) (tC (.int 9)))) (tRet (tTup (tCons (tC (.str (SX.S [118, 97, 108, 117, 101]))) (tCons (tMeth (WP.ca mg "Cursor") "take_decimal" (sp_Cursor_take_decimal K mg) [] (fun cls d H => ∀ σ : L2.St, σ.length = 5 → W cls d σ H) (tVar 0) tNil) tNil)))) tNext) (tIfS (tTest (tOp rEq (tVar 1) (tC (.int 10)))) (tRet (tTup (tCons (tC (.str (SX.S [118, 97, 108, 117, 101]))) (tCons (tMeth (WP.ca mg "Cursor") "take_string" (sp_Cursor_take_string K mg) [] (fun cls d H => ∀ σ : L2.St, σ.length = 5 → W cls d σ H) (tVar 0) tNil) tNil)))) tNext))))))) (ts := fun a cls d => (tRet (tTup (tCons (tC (.str (SX.S [102, 97, 117, 108, 116]))) (tCons (tXf a cls d (WP.ca mg "BadProgram") "line" (tVar 4)) (tCons (tXf a cls d (WP.ca mg "BadProgram") "reason" (tVar 4)) tNil)))))) (Wout := (fun _ _ _ _ => False)) rfl rfl sc__law_do.nd rfl rfl ⟨rfl, by decide, Or.inl B.xi_BadProgram.m⟩ takes0
        (fun W pn xe tk _ => (pss_cons (ps_if (pt_cmpR op_eq (pv 1) pe_int (nomark _)) (pss_one (ps_ret (pe_tup (WP.pa_consN (WP.pe_strL [118, 97, 108, 117, 101] (by decide +kernel)) (WP.pa_consN (WP.pe_mS (pv 0) B.k_Cursor c_Cursor_expect hr (WP.passL (n := 5) tk rfl) (WP.pa_consN (pe_ix ix_list (pv 2) pe_int (fun _ _ => rfl)) (WP.pa_consN (pe_ix ix_list (pv 2) pe_int (fun _ _ => rfl)) (WP.pa_consN (pe_ix ix_list (pv 2) pe_int (fun _ _ => rfl)) pa_nil)))) pa_nil))))) pss_nil)
      (pss_cons (ps_if (pt_cmpR op_eq (pv 1) pe_int (nomark _)) (pss_one (ps_ret (pe_tup (WP.pa_consN (WP.pe_strL [118, 97, 108, 117, 101] (by decide +kernel)) (WP.pa_consN (pe_meth0 (pv 0) B.k_Cursor.c M_Cursor_take_name F_Cursor_take_name (hr.mono (by decide)) b_Cursor_take_name .nil (WP.passL (n := 5) tk rfl)) pa_nil))))) pss_nil)
      (pss_cons (ps_if (pt_cmpR op_eq (pv 1) pe_int (nomark _)) (pss_one (ps_ret (pe_tup (WP.pa_consN (WP.pe_strL [118, 97, 108, 117, 101] (by decide +kernel)) (WP.pa_consN (WP.pe_mK (pv 0) B.k_Cursor c_Cursor_take_integer__greatest hr (WP.passL (n := 5) tk rfl) (pk_cons (pv 3) pk_nil)) pa_nil))))) pss_nil)
      (pss_cons (ps_if (pt_cmpR op_eq (pv 1) pe_int (nomark _)) (pss_one (ps_ret (pe_tup (WP.pa_consN (WP.pe_strL [118, 97, 108, 117, 101] (by decide +kernel)) (WP.pa_consN (WP.pe_mK (pv 0) B.k_Cursor c_Cursor_take_integer__least_greatest hr (WP.passL (n := 5) tk rfl) (pk_cons pe_int (pk_cons (pv 3) pk_nil))) pa_nil))))) pss_nil)
      (pss_cons (ps_if (pt_cmpR op_eq (pv 1) pe_int (nomark _)) (pss_one (ps_ret (pe_tup (WP.pa_consN (WP.pe_strL [118, 97, 108, 117, 101] (by decide +kernel)) (WP.pa_consN (pe_meth0 (pv 0) B.k_Cursor.c M_Cursor_take_decimal F_Cursor_take_decimal (hr.mono (by decide)) b_Cursor_take_decimal .nil (WP.passL (n := 5) tk rfl)) pa_nil))))) pss_nil)
      (pss_one (ps_if (pt_cmpR op_eq (pv 1) pe_int (nomark _)) (pss_one (ps_ret (pe_tup (WP.pa_consN (WP.pe_strL [118, 97, 108, 117, 101] (by decide +kernel)) (WP.pa_consN (pe_meth0 (pv 0) B.k_Cursor.c M_Cursor_take_string F_Cursor_take_string (hr.mono (by decide)) b_Cursor_take_string .nil (WP.passL (n := 5) tk rfl)) pa_nil))))) pss_nil))))))))
        (fun a oe cls d pn hz hf => (pss_one (ps_ret (pe_tup (WP.pa_consN (WP.pe_strL [102, 97, 117, 108, 116] (by decide +kernel)) (WP.pa_consN (pe_xf B.xi_BadProgram.x (B.xi_BadProgram.n _ (by decide +kernel)) hz hf (pv 4)) (WP.pa_consN (pe_xf B.xi_BadProgram.x (B.xi_BadProgram.n _ (by decide +kernel)) hz hf (pv 4)) pa_nil))))))))
      (pss_cons (ps_if (pt_cmpR op_eq (pv 1) pe_int (nomark _)) (pss_one (ps_ret (pe_tup (WP.pa_consN (WP.pe_strL [118, 97, 108, 117, 101] (by decide +kernel)) (WP.pa_consN (pe_meth0 (pv 0) B.k_Cursor.c M_Cursor_peek F_Cursor_peek (hr.mono (by decide)) b_Cursor_peek .nil pass0) pa_nil))))) pss_nil)
      (pss_cons (ps_if (pt_cmpR op_eq (pv 1) pe_int (nomark _)) (pss_one (ps_ret (pe_tup (WP.pa_consN (WP.pe_strL [118, 97, 108, 117, 101] (by decide +kernel)) (WP.pa_consN (pe_meth0 (pv 0) B.k_Cursor.c M_Cursor_is_done F_Cursor_is_done (hr.mono (by decide)) b_Cursor_is_done .nil pass0) pa_nil))))) pss_nil)
      (pss_cons (ps_if (pt_cmpR op_eq (pv 1) pe_int (nomark _)) (pss_one (ps_ret (pe_tup (WP.pa_consN (WP.pe_strL [118, 97, 108, 117, 101] (by decide +kernel)) (WP.pa_consN (WP.pe_propC (pv 0) B.k_Cursor c_Cursor_row hr) pa_nil))))) pss_nil)
      (pss_cons (ps_if (pt_cmpR op_eq (pv 1) pe_int (nomark _)) (pss_one (ps_ret (pe_tup (WP.pa_consN (WP.pe_strL [118, 97, 108, 117, 101] (by decide +kernel)) (WP.pa_consN (WP.pe_propC (pv 0) B.k_Cursor c_Cursor_row_behind hr) pa_nil))))) pss_nil)
      (pss_one (ps_ret (pe_tup (WP.pa_consN (WP.pe_strL [118, 97, 108, 117, 101] (by decide +kernel)) (WP.pa_consN (pe_meth (pv 0) B.k_Cursor.c M_Cursor_accept F_Cursor_accept (hr.mono (by decide)) b_Cursor_accept .nil pass0 (WP.pa_consN (pe_ix ix_list (pv 2) pe_int (fun _ _ => rfl)) pa_nil)) pa_nil)))))))))), ?_⟩
    k_updF
    have hl : SqL K H W (ws.map fun w => .str (SX.S w)) := SqL.of hW
    obtain ⟨w0, w1, w2, rfl⟩ : ∃ w0 w1 w2, ws = [w0, w1, w2] := len3 hwl
    have hn := hc.n
    have cs := (show D = 5 ∨ D = 6 ∨ D = 7 ∨ D = 8 ∨ D = 9 ∨ D = 10 ∨ D < 5 by omega)
    rcases cs with c0 | c0 | c0 | c0 | c0 | c0 | c0
    · refine WP.brT (decide_eq_true (by omega)) ?_
      k_updF
      refine WP.methSV rfl hc.o rfl ?_
      k_updF
      refine WP.ixL hl WP.at0 ?_
      k_updF
      refine WP.ixL hl WP.at1 ?_
      k_updF
      refine WP.ixL hl WP.at2 ?_
      k_updF
      refine ⟨by show 3 ≤ 1000; decide, fun p hp => ?_⟩
      have ep := WP.same_new (o := .tup [.str (SX.S w0), .str (SX.S w1), .str (SX.S w2)]) hp
      have oe : outX c.rs n D [w0, w1, w2] bound = (if mtc c.rs n [w0, w1, w2] = 3 then (.val .non, n + 3) else refX c.rs (n + mtc c.rs n [w0, w1, w2]) kWORD) := by unfold outX; rw [if_neg (by omega), if_neg (by omega), if_neg (by omega), if_neg (by omega), if_neg (by omega), if_pos c0]; rfl
      refine ⟨a, p, c, n, [w0, w1, w2], rfl, hc.sm (.of ep), SqT.of upd_same, hne, fun hm H1 e1 o1 => ?_, fun hm => ?_⟩
      · have hm : mtc c.rs n [w0, w1, w2] = 3 := hm
        have e1 := (WP.Sn.of (.of ep)).trans e1
        rw [if_pos hm] at oe
        k_updF
        refine ⟨WP.sz (show 2 ≤ 1000000 by decide), fun p hp => ?_⟩
        have e9 := WP.same_new (o := .tup [.str (SX.S kVALU), .non]) hp
        rw [oe] at k
        exact k p _ (e1.trans (.of (.of e9))) (e9 _ _ o1) (SqT.of upd_same)
      · have hm : mtc c.rs n [w0, w1, w2] < 3 := hm
        rw [if_neg (by omega)] at oe
        generalize mtc c.rs n [w0, w1, w2] = m at hm oe ⊢
        exact fun dd H1 e1 o1 hd1 σ hσ => by
          obtain ⟨v0, v1, v2, v3, v4, rfl⟩ : ∃ v0 v1 v2 v3 v4, σ = [v0, v1, v2, v3, v4] := len5 hσ
          refine ⟨true, B.xi_BadProgram.catches B.s_BadProgram_BadProgram, fun _ a' na => ?_, fun z => Bool.noConfusion z⟩
          k_updF
          refine ⟨.ref a', rfl, rfl, rfl, dd, _, _, rfl, hd1, rfl, ?_⟩
          k_updF
          refine ⟨.ref a', rfl, rfl, rfl, dd, _, _, rfl, hd1, rfl, ?_⟩
          k_updF
          refine ⟨WP.sz (show 3 ≤ 1000000 by decide), fun p hp => ?_⟩
          have e9 := WP.same_new (o := .tup [.str (SX.S [102, 97, 117, 108, 116]), .int (rowC c.rs (n + m) : Nat), .str (SX.S (rsn c.rs (n + m) kWORD))]) hp
          rw [oe] at k
          exact k p _ (((WP.Sn.of (.of ep)).trans e1).trans (.of (.of e9))) (e9 _ _ o1) (SqT.of upd_same)
    · refine WP.brF (decide_eq_false (by omega)) ?_
      k_updF
      refine WP.brT (decide_eq_true (by omega)) ?_
      k_updF
      refine WP.methV rfl hc.o rfl ?_
      k_updF
      have oe : outX c.rs n D [w0, w1, w2] bound = takX c.rs n D bound := by unfold outX; rw [if_neg (by omega), if_neg (by omega), if_neg (by omega), if_neg (by omega), if_neg (by omega), if_neg (by omega)]
      have oe2 : takX c.rs n D bound = (if MW.nameB (nxt c.rs n false) = true then (.val (.str (SX.S (nxt c.rs n false))), n + 1) else refX c.rs n kWORD) := by unfold takX; rw [if_pos c0]
      rw [oe2] at oe
      refine ⟨a, c, n, rfl, hc, hT, fun hb H1 e1 o1 => ?_, fun hb => ?_⟩
      · rw [if_pos hb] at oe
        k_updF
        refine ⟨WP.sz (show 2 ≤ 1000000 by decide), fun p hp => ?_⟩
        have e9 := WP.same_new (o := .tup [.str (SX.S kVALU), .str (SX.S (nxt c.rs n false))]) hp
        rw [oe] at k
        exact k p _ (e1.trans (.of (.of e9))) (e9 _ _ o1) (SqT.of upd_same)
      · rw [if_neg (by rw [hb]; decide)] at oe
        exact fun dd H1 e1 o1 hd1 σ hσ => by
          obtain ⟨v0, v1, v2, v3, v4, rfl⟩ : ∃ v0 v1 v2 v3 v4, σ = [v0, v1, v2, v3, v4] := len5 hσ
          refine ⟨true, B.xi_BadProgram.catches B.s_BadProgram_BadProgram, fun _ a' na => ?_, fun z => Bool.noConfusion z⟩
          k_updF
          refine ⟨.ref a', rfl, rfl, rfl, dd, _, _, rfl, hd1, rfl, ?_⟩
          k_updF
          refine ⟨.ref a', rfl, rfl, rfl, dd, _, _, rfl, hd1, rfl, ?_⟩
          k_updF
          refine ⟨WP.sz (show 3 ≤ 1000000 by decide), fun p hp => ?_⟩
          have e9 := WP.same_new (o := .tup [.str (SX.S [102, 97, 117, 108, 116]), .int (rowC c.rs n : Nat), .str (SX.S (rsn c.rs n kWORD))]) hp
          rw [oe] at k
          exact k p _ (e1.trans (.of (.of e9))) (e9 _ _ o1) (SqT.of upd_same)
    · refine WP.brF (decide_eq_false (by omega)) ?_
      k_updF
      refine WP.brF (decide_eq_false (by omega)) ?_
      k_updF
      refine WP.brT (decide_eq_true (by omega)) ?_
      k_updF
      refine WP.methKV rfl hc.o rfl ?_
      k_updF
      have oe : outX c.rs n D [w0, w1, w2] bound = takX c.rs n D bound := by unfold outX; rw [if_neg (by omega), if_neg (by omega), if_neg (by omega), if_neg (by omega), if_neg (by omega), if_neg (by omega)]
      have oe2 : takX c.rs n D bound = intX c.rs n (nxt c.rs n false) 0 bound := by unfold takX; rw [if_neg (by omega), if_pos c0]
      rw [oe2] at oe
      unfold intX at oe
      refine ⟨rfl, a, c, n, 0, bound, rfl, hc, hT, fun hb => ?_, fun hb hv => ?_, fun hb hv hg H1 e1 o1 => ?_⟩
      · rw [if_pos hb] at oe
        exact fun dd H1 e1 o1 hd1 σ hσ => by
          obtain ⟨v0, v1, v2, v3, v4, rfl⟩ : ∃ v0 v1 v2 v3 v4, σ = [v0, v1, v2, v3, v4] := len5 hσ
          refine ⟨true, B.xi_BadProgram.catches B.s_BadProgram_BadProgram, fun _ a' na => ?_, fun z => Bool.noConfusion z⟩
          k_updF
          refine ⟨.ref a', rfl, rfl, rfl, dd, _, _, rfl, hd1, rfl, ?_⟩
          k_updF
          refine ⟨.ref a', rfl, rfl, rfl, dd, _, _, rfl, hd1, rfl, ?_⟩
          k_updF
          refine ⟨WP.sz (show 3 ≤ 1000000 by decide), fun p hp => ?_⟩
          have e9 := WP.same_new (o := .tup [.str (SX.S [102, 97, 117, 108, 116]), .int (rowC c.rs n : Nat), .str (SX.S (rsn c.rs n kWORD))]) hp
          rw [oe] at k
          exact k p _ (e1.trans (.of (.of e9))) (e9 _ _ o1) (SqT.of upd_same)
      · rw [if_neg (by rw [hb]; decide), if_pos hv] at oe
        exact fun dd H1 e1 o1 hd1 σ hσ => by
          obtain ⟨v0, v1, v2, v3, v4, rfl⟩ : ∃ v0 v1 v2 v3 v4, σ = [v0, v1, v2, v3, v4] := len5 hσ
          refine ⟨true, B.xi_BadProgram.catches B.s_BadProgram_BadProgram, fun _ a' na => ?_, fun z => Bool.noConfusion z⟩
          k_updF
          refine ⟨.ref a', rfl, rfl, rfl, dd, _, _, rfl, hd1, rfl, ?_⟩
          k_updF
          refine ⟨.ref a', rfl, rfl, rfl, dd, _, _, rfl, hd1, rfl, ?_⟩
          k_updF
          refine ⟨WP.sz (show 3 ≤ 1000000 by decide), fun p hp => ?_⟩
          have e9 := WP.same_new (o := .tup [.str (SX.S [102, 97, 117, 108, 116]), .int (rowC c.rs n : Nat), .str (SX.S (rsn c.rs n kVALU))]) hp
          rw [oe] at k
          exact k p _ (e1.trans (.of (.of e9))) (e9 _ _ o1) (SqT.of upd_same)
      · rw [if_neg (by rw [hb]; decide), if_neg (fun z => z.elim (fun z => by rw [hv] at z; cases z) fun z => z hg)] at oe
        k_updF
        refine ⟨WP.sz (show 2 ≤ 1000000 by decide), fun p hp => ?_⟩
        have e9 := WP.same_new (o := .tup [.str (SX.S kVALU), .int (NumText.digitsVal (nxt c.rs n false) : Nat)]) hp
        rw [oe] at k
        exact k p _ (e1.trans (.of (.of e9))) (e9 _ _ o1) (SqT.of upd_same)
    · refine WP.brF (decide_eq_false (by omega)) ?_
      k_updF
      refine WP.brF (decide_eq_false (by omega)) ?_
      k_updF
      refine WP.brF (decide_eq_false (by omega)) ?_
      k_updF
      refine WP.brT (decide_eq_true (by omega)) ?_
      k_updF
      refine WP.methKV rfl hc.o rfl ?_
      k_updF
      have oe : outX c.rs n D [w0, w1, w2] bound = takX c.rs n D bound := by unfold outX; rw [if_neg (by omega), if_neg (by omega), if_neg (by omega), if_neg (by omega), if_neg (by omega), if_neg (by omega)]
      have oe2 : takX c.rs n D bound = intX c.rs n (nxt c.rs n false) 7 bound := by unfold takX; rw [if_neg (by omega), if_neg (by omega), if_pos c0]
      rw [oe2] at oe
      unfold intX at oe
      refine ⟨rfl, a, c, n, 7, bound, rfl, hc, hT, fun hb => ?_, fun hb hv => ?_, fun hb hv hg H1 e1 o1 => ?_⟩
      · rw [if_pos hb] at oe
        exact fun dd H1 e1 o1 hd1 σ hσ => by
          obtain ⟨v0, v1, v2, v3, v4, rfl⟩ : ∃ v0 v1 v2 v3 v4, σ = [v0, v1, v2, v3, v4] := len5 hσ
          refine ⟨true, B.xi_BadProgram.catches B.s_BadProgram_BadProgram, fun _ a' na => ?_, fun z => Bool.noConfusion z⟩
          k_updF
          refine ⟨.ref a', rfl, rfl, rfl, dd, _, _, rfl, hd1, rfl, ?_⟩
          k_updF
          refine ⟨.ref a', rfl, rfl, rfl, dd, _, _, rfl, hd1, rfl, ?_⟩
          k_updF
          refine ⟨WP.sz (show 3 ≤ 1000000 by decide), fun p hp => ?_⟩
          have e9 := WP.same_new (o := .tup [.str (SX.S [102, 97, 117, 108, 116]), .int (rowC c.rs n : Nat), .str (SX.S (rsn c.rs n kWORD))]) hp
          rw [oe] at k
          exact k p _ (e1.trans (.of (.of e9))) (e9 _ _ o1) (SqT.of upd_same)
      · rw [if_neg (by rw [hb]; decide), if_pos hv] at oe
        exact fun dd H1 e1 o1 hd1 σ hσ => by
          obtain ⟨v0, v1, v2, v3, v4, rfl⟩ : ∃ v0 v1 v2 v3 v4, σ = [v0, v1, v2, v3, v4] := len5 hσ
          refine ⟨true, B.xi_BadProgram.catches B.s_BadProgram_BadProgram, fun _ a' na => ?_, fun z => Bool.noConfusion z⟩
          k_updF
          refine ⟨.ref a', rfl, rfl, rfl, dd, _, _, rfl, hd1, rfl, ?_⟩
          k_updF
          refine ⟨.ref a', rfl, rfl, rfl, dd, _, _, rfl, hd1, rfl, ?_⟩
          k_updF
          refine ⟨WP.sz (show 3 ≤ 1000000 by decide), fun p hp => ?_⟩
          have e9 := WP.same_new (o := .tup [.str (SX.S [102, 97, 117, 108, 116]), .int (rowC c.rs n : Nat), .str (SX.S (rsn c.rs n kVALU))]) hp
          rw [oe] at k
          exact k p _ (e1.trans (.of (.of e9))) (e9 _ _ o1) (SqT.of upd_same)
      · rw [if_neg (by rw [hb]; decide), if_neg (fun z => z.elim (fun z => by rw [hv] at z; cases z) fun z => z hg)] at oe
        k_updF
        refine ⟨WP.sz (show 2 ≤ 1000000 by decide), fun p hp => ?_⟩
        have e9 := WP.same_new (o := .tup [.str (SX.S kVALU), .int (NumText.digitsVal (nxt c.rs n false) : Nat)]) hp
        rw [oe] at k
        exact k p _ (e1.trans (.of (.of e9))) (e9 _ _ o1) (SqT.of upd_same)
    · refine WP.brF (decide_eq_false (by omega)) ?_
      k_updF
      refine WP.brF (decide_eq_false (by omega)) ?_
      k_updF
      refine WP.brF (decide_eq_false (by omega)) ?_
      k_updF
      refine WP.brF (decide_eq_false (by omega)) ?_
      k_updF
      refine WP.brT (decide_eq_true (by omega)) ?_
      k_updF
      refine WP.methV rfl hc.o rfl ?_
      k_updF
      have oe : outX c.rs n D [w0, w1, w2] bound = takX c.rs n D bound := by unfold outX; rw [if_neg (by omega), if_neg (by omega), if_neg (by omega), if_neg (by omega), if_neg (by omega), if_neg (by omega)]
      have oe2 : takX c.rs n D bound = (if numB (nxt c.rs n false) = true then (match MT.spell (nxt c.rs n false) with | some (u, s) => (.dec u s, n + 1) | none => refX c.rs n kVALU) else refX c.rs n kWORD) := by unfold takX; rw [if_neg (by omega), if_neg (by omega), if_neg (by omega), if_pos c0] <;> rfl
      rw [oe2] at oe
      have ev : numB (nxt c.rs n false) = true → rsn c.rs n kVALU = kVALU := fun hb => by
        have := nxt_lt (rs := c.rs) (a := n) (b := false) (fun z => by rw [z] at hb; cases hb)
        unfold rsn
        rw [if_neg (by omega)]
      refine ⟨a, c, n, rfl, hc, hT, fun hb => ?_, fun hb hv => ?_, fun hb u s hv p0 H1 e1 o1 hp0 => ?_⟩
      · rw [if_neg (by rw [hb]; decide)] at oe
        exact fun dd H1 e1 o1 hd1 σ hσ => by
          obtain ⟨v0, v1, v2, v3, v4, rfl⟩ : ∃ v0 v1 v2 v3 v4, σ = [v0, v1, v2, v3, v4] := len5 hσ
          refine ⟨true, B.xi_BadProgram.catches B.s_BadProgram_BadProgram, fun _ a' na => ?_, fun z => Bool.noConfusion z⟩
          k_updF
          refine ⟨.ref a', rfl, rfl, rfl, dd, _, _, rfl, hd1, rfl, ?_⟩
          k_updF
          refine ⟨.ref a', rfl, rfl, rfl, dd, _, _, rfl, hd1, rfl, ?_⟩
          k_updF
          refine ⟨WP.sz (show 3 ≤ 1000000 by decide), fun p hp => ?_⟩
          have e9 := WP.same_new (o := .tup [.str (SX.S [102, 97, 117, 108, 116]), .int (rowC c.rs n : Nat), .str (SX.S (rsn c.rs n kWORD))]) hp
          rw [oe] at k
          exact k p _ (e1.trans (.of (.of e9))) (e9 _ _ o1) (SqT.of upd_same)
      · rw [if_pos hb, hv] at oe
        rw [← ev hb]
        exact fun dd H1 e1 o1 hd1 σ hσ => by
          obtain ⟨v0, v1, v2, v3, v4, rfl⟩ : ∃ v0 v1 v2 v3 v4, σ = [v0, v1, v2, v3, v4] := len5 hσ
          refine ⟨true, B.xi_BadProgram.catches B.s_BadProgram_BadProgram, fun _ a' na => ?_, fun z => Bool.noConfusion z⟩
          k_updF
          refine ⟨.ref a', rfl, rfl, rfl, dd, _, _, rfl, hd1, rfl, ?_⟩
          k_updF
          refine ⟨.ref a', rfl, rfl, rfl, dd, _, _, rfl, hd1, rfl, ?_⟩
          k_updF
          refine ⟨WP.sz (show 3 ≤ 1000000 by decide), fun p hp => ?_⟩
          have e9 := WP.same_new (o := .tup [.str (SX.S [102, 97, 117, 108, 116]), .int (rowC c.rs n : Nat), .str (SX.S (rsn c.rs n kVALU))]) hp
          rw [oe] at k
          exact k p _ (e1.trans (.of (.of e9))) (e9 _ _ o1) (SqT.of upd_same)
      · rw [if_pos hb, hv] at oe
        k_updF
        refine ⟨WP.sz (show 2 ≤ 1000000 by decide), fun p hp => ?_⟩
        have e9 := WP.same_new (o := .tup [.str (SX.S kVALU), .ref p0]) hp
        rw [oe] at k
        exact k p _ (e1.trans (.of (.of e9))) (e9 _ _ o1) ⟨p0, SqT.of upd_same, WP.sqt e9 hp0⟩
    · refine WP.brF (decide_eq_false (by omega)) ?_
      k_updF
      refine WP.brF (decide_eq_false (by omega)) ?_
      k_updF
      refine WP.brF (decide_eq_false (by omega)) ?_
      k_updF
      refine WP.brF (decide_eq_false (by omega)) ?_
      k_updF
      refine WP.brF (decide_eq_false (by omega)) ?_
      k_updF
      refine WP.brT (decide_eq_true (by omega)) ?_
      k_updF
      refine WP.methV rfl hc.o rfl ?_
      k_updF
      have oe : outX c.rs n D [w0, w1, w2] bound = takX c.rs n D bound := by unfold outX; rw [if_neg (by omega), if_neg (by omega), if_neg (by omega), if_neg (by omega), if_neg (by omega), if_neg (by omega)]
      have oe2 : takX c.rs n D bound = (if nxt c.rs n false ≠ [] then refX c.rs n kWORD
        else if 1 ≤ (nxt c.rs n true).length ∧ (nxt c.rs n true).length ≤ 80 then (.val (.str (SX.S (nxt c.rs n true))), n + 1) else refX c.rs n kVALU) := by unfold takX; rw [if_neg (by omega), if_neg (by omega), if_neg (by omega), if_neg (by omega)]
      rw [oe2] at oe
      refine ⟨a, c, n, rfl, hc, fun hb => ?_, fun hb hv => ?_, fun hb hv => ?_⟩
      · rw [if_pos hb] at oe
        exact fun dd H1 e1 o1 hd1 σ hσ => by
          obtain ⟨v0, v1, v2, v3, v4, rfl⟩ : ∃ v0 v1 v2 v3 v4, σ = [v0, v1, v2, v3, v4] := len5 hσ
          refine ⟨true, B.xi_BadProgram.catches B.s_BadProgram_BadProgram, fun _ a' na => ?_, fun z => Bool.noConfusion z⟩
          k_updF
          refine ⟨.ref a', rfl, rfl, rfl, dd, _, _, rfl, hd1, rfl, ?_⟩
          k_updF
          refine ⟨.ref a', rfl, rfl, rfl, dd, _, _, rfl, hd1, rfl, ?_⟩
          k_updF
          refine ⟨WP.sz (show 3 ≤ 1000000 by decide), fun p hp => ?_⟩
          have e9 := WP.same_new (o := .tup [.str (SX.S [102, 97, 117, 108, 116]), .int (rowC c.rs n : Nat), .str (SX.S (rsn c.rs n kWORD))]) hp
          rw [oe] at k
          exact k p _ (e1.trans (.of (.of e9))) (e9 _ _ o1) (SqT.of upd_same)
      · rw [if_neg (fun z => z hb), if_neg hv] at oe
        exact fun dd H1 e1 o1 hd1 σ hσ => by
          obtain ⟨v0, v1, v2, v3, v4, rfl⟩ : ∃ v0 v1 v2 v3 v4, σ = [v0, v1, v2, v3, v4] := len5 hσ
          refine ⟨true, B.xi_BadProgram.catches B.s_BadProgram_BadProgram, fun _ a' na => ?_, fun z => Bool.noConfusion z⟩
          k_updF
          refine ⟨.ref a', rfl, rfl, rfl, dd, _, _, rfl, hd1, rfl, ?_⟩
          k_updF
          refine ⟨.ref a', rfl, rfl, rfl, dd, _, _, rfl, hd1, rfl, ?_⟩
          k_updF
          refine ⟨WP.sz (show 3 ≤ 1000000 by decide), fun p hp => ?_⟩
          have e9 := WP.same_new (o := .tup [.str (SX.S [102, 97, 117, 108, 116]), .int (rowC c.rs n : Nat), .str (SX.S (rsn c.rs n kVALU))]) hp
          rw [oe] at k
          exact k p _ (e1.trans (.of (.of e9))) (e9 _ _ o1) (SqT.of upd_same)
      · rw [if_neg (fun z => z hb), if_pos hv] at oe
        have e1 : WP.Sn a H (upd H a (cuO mg c (n + 1))) := sn_at hc.o
        have o1 : upd H a (cuO mg c (n + 1)) a = _ := upd_same
        k_updF
        refine ⟨WP.sz (show 2 ≤ 1000000 by decide), fun p hp => ?_⟩
        have e9 := WP.same_new (o := .tup [.str (SX.S kVALU), .str (SX.S (nxt c.rs n true))]) hp
        rw [oe] at k
        exact k p _ (e1.trans (.of (.of e9))) (e9 _ _ o1) (SqT.of upd_same)
    · refine WP.brF (decide_eq_false (by omega)) ?_
      k_updF
      refine WP.brF (decide_eq_false (by omega)) ?_
      k_updF
      refine WP.brF (decide_eq_false (by omega)) ?_
      k_updF
      refine WP.brF (decide_eq_false (by omega)) ?_
      k_updF
      refine WP.brF (decide_eq_false (by omega)) ?_
      k_updF
      refine WP.brF (decide_eq_false (by omega)) ?_
      k_updF
      have cs := (show D = 0 ∨ D = 1 ∨ D = 2 ∨ D = 3 ∨ D = 4 by omega)
      rcases cs with c1 | c1 | c1 | c1 | c1
      · refine WP.brT (decide_eq_true (by omega)) ?_
        k_updF
        refine WP.methV rfl hc.o rfl ?_
        k_updF
        refine ⟨a, c, n, rfl, hc, ?_⟩
        k_updF
        refine ⟨WP.sz (show 2 ≤ 1000000 by decide), fun p hp => ?_⟩
        have e9 := WP.same_new (o := .tup [.str (SX.S kVALU), .str (SX.S (nxt c.rs n false))]) hp
        rw [show outX c.rs n D [w0, w1, w2] bound = _ from by unfold outX; rw [if_pos c1]] at k
        exact k p _ (.of (.of e9)) (e9 _ _ hc.o) (SqT.of upd_same)
      · refine WP.brF (decide_eq_false (by omega)) ?_
        k_updF
        refine WP.brT (decide_eq_true (by omega)) ?_
        k_updF
        refine WP.methV rfl hc.o rfl ?_
        k_updF
        refine ⟨a, c, n, rfl, hc, ?_⟩
        k_updF
        refine ⟨WP.sz (show 2 ≤ 1000000 by decide), fun p hp => ?_⟩
        have e9 := WP.same_new (o := .tup [.str (SX.S kVALU), .bl (decide (n = c.rs.length))]) hp
        rw [show outX c.rs n D [w0, w1, w2] bound = _ from by unfold outX; rw [if_neg (by omega), if_pos c1]] at k
        exact k p _ (.of (.of e9)) (e9 _ _ hc.o) (SqT.of upd_same)
      · refine WP.brF (decide_eq_false (by omega)) ?_
        k_updF
        refine WP.brF (decide_eq_false (by omega)) ?_
        k_updF
        refine WP.brT (decide_eq_true (by omega)) ?_
        k_updF
        refine WP.propV rfl hc.o ⟨a, c, n, rfl, hc, ?_⟩
        k_updF
        refine ⟨WP.sz (show 2 ≤ 1000000 by decide), fun p hp => ?_⟩
        have e9 := WP.same_new (o := .tup [.str (SX.S kVALU), .int (rowC c.rs n : Nat)]) hp
        rw [show outX c.rs n D [w0, w1, w2] bound = _ from by unfold outX; rw [if_neg (by omega), if_neg (by omega), if_pos c1]] at k
        exact k p _ (.of (.of e9)) (e9 _ _ hc.o) (SqT.of upd_same)
      · refine WP.brF (decide_eq_false (by omega)) ?_
        k_updF
        refine WP.brF (decide_eq_false (by omega)) ?_
        k_updF
        refine WP.brF (decide_eq_false (by omega)) ?_
        k_updF
        refine WP.brT (decide_eq_true (by omega)) ?_
        k_updF
        refine WP.propV rfl hc.o ⟨a, c, n, rfl, hc, ?_⟩
        k_updF
        refine ⟨WP.sz (show 2 ≤ 1000000 by decide), fun p hp => ?_⟩
        have e9 := WP.same_new (o := .tup [.str (SX.S kVALU), .int (rowB c.rs n : Nat)]) hp
        rw [show outX c.rs n D [w0, w1, w2] bound = _ from by unfold outX; rw [if_neg (by omega), if_neg (by omega), if_neg (by omega), if_pos c1]] at k
        exact k p _ (.of (.of e9)) (e9 _ _ hc.o) (SqT.of upd_same)
      · refine WP.brF (decide_eq_false (by omega)) ?_
        k_updF
        refine WP.brF (decide_eq_false (by omega)) ?_
        k_updF
        refine WP.brF (decide_eq_false (by omega)) ?_
        k_updF
        refine WP.brF (decide_eq_false (by omega)) ?_
        k_updF
        refine WP.methV rfl hc.o rfl ?_
        k_updF
        refine WP.ixL hl WP.at0 ?_
        k_updF
        have oe : outX c.rs n D [w0, w1, w2] bound = (if nxt c.rs n false = w0 then (.val (.bl true), n + 1) else (.val (.bl false), n)) := by unfold outX; rw [if_neg (by omega), if_neg (by omega), if_neg (by omega), if_neg (by omega), if_pos c1]; rfl
        refine ⟨a, c, n, w0, rfl, hc, hne w0 List.mem_cons_self, fun e => ?_, fun e => ?_⟩
        · rw [if_pos e] at oe
          k_updF
          refine ⟨WP.sz (show 2 ≤ 1000000 by decide), fun p hp => ?_⟩
          have e9 := WP.same_new (o := .tup [.str (SX.S kVALU), .bl true]) hp
          rw [oe] at k
          exact k p _ ((sn_at hc.o).trans (.of (.of e9))) (e9 _ _ upd_same) (SqT.of upd_same)
        · rw [if_neg e] at oe
          k_updF
          refine ⟨WP.sz (show 2 ≤ 1000000 by decide), fun p hp => ?_⟩
          have e9 := WP.same_new (o := .tup [.str (SX.S kVALU), .bl false]) hp
          rw [oe] at k
          exact k p _ (.of (.of e9)) (e9 _ _ hc.o) (SqT.of upd_same)
  ))) only [D.box_eq]
end
abbrev s_law : Stmt := top 55
abbrev N_law : List Str := ["script", "draws", "text", "rows", "cursor", "at", "k", "deed", "words", "bound", "due"]
theorem sc_law : FnScope N_law ["script"] (defScope s_law) := ⟨rfl, rfl, rfl, by decide +kernel, rfl, by decide +kernel, by decide +kernel⟩
/-- what stands beside the drawing: the cursor at a, the rows at L -/
structure Z31 (K : PySem.W.Frag) (mg : WP.MG) (H : Hp) (d : Addr) (z : DZ) (a : Addr) (c : Cu) (L : Addr) (n : Nat) : Prop where
  ds : DS K H d z
  cu : CurA K mg H a c n
  rt : RtL K H L c.rs
  ld : L ≠ d
  tb : GxR.TabG H (WP.tbl K "_has_only")
section
variable {K : PySem.W.Frag} {mg : WP.MG} {H H' : Hp} {d a L : Addr} {z : DZ} {c : Cu} {n m : Nat}
theorem Z31.same (h : Z31 K mg H d z a c L n) (e : Same H H') : Z31 K mg H' d z a c L n := by
  refine ⟨h.ds.same e, h.cu.sm (.of e), h.rt.same e, h.ld, ?_⟩
  obtain ⟨ps, h1, h2⟩ := h.tb
  exact ⟨ps, e _ _ h1, h2⟩
theorem Z31.draw (h : Z31 K mg H d z a c L n) (e : WP.Sx d H H') (D : DS K H' d z) : Z31 K mg H' d z a c L n := by
  obtain ⟨p, q, r, hd, _⟩ := h.ds
  have na : a ≠ d := fun z => by have := h.cu.o; rw [z, hd] at this; cases this
  have nl : c.L ≠ d := fun z => by
    have := h.cu.l
    rw [z, hd] at this
    injection this with this; injection this with this
    cases hh : c.as with
    | nil => rw [hh] at this; cases this
    | cons x xs => cases xs with
      | nil => rw [hh] at this; cases this
      | cons y ys => rw [hh] at this; injection this with h1 h2; injection h2 with h2 h3; cases h2
  refine ⟨D, ⟨e _ _ na h.cu.o, e _ _ nl h.cu.l, rt_map h.cu.t fun _ _ q => WP.sqtX e hd q, h.cu.n, h.cu.ok, h.cu.z⟩, h.rt.sx hd h.ld e, h.ld, ?_⟩
  obtain ⟨ps, h1, h2⟩ := h.tb
  exact ⟨ps, e _ _ (fun z => by rw [z, hd] at h1; cases h1) h1, h2⟩
theorem Z31.step (h : Z31 K mg H d z a c L n) (e : WP.Sn a H H') (o : H' a = some (cuO mg c m)) (hm : m ≤ c.rs.length) : Z31 K mg H' d z a c L m := by
  obtain ⟨p, q, r, hd, hz, hl, h0⟩ := h.ds
  have keep : ∀ x xs, H x = some (.lst xs) → H' x = some (.lst xs) := fun x xs hx => e.k _ _ (fun z => by rw [z, h.cu.o] at hx; cases hx) hx WP.nt_lst
  obtain ⟨as, g, rr⟩ := h.rt
  exact ⟨⟨p, q, r, keep _ _ hd, hz, keep _ _ hl, h0⟩, h.cu.sn e o hm, ⟨as, keep _ _ g, rt_map rr fun _ _ q => h.cu.sqt e q⟩, h.ld, e.t _ h.tb⟩
theorem Z31.ini {x dx : Addr} {C : Addr} (hd : DS K H d z) (rt : RtL K H L c.rs) (ld : L ≠ d) (tb : GxR.TabG H (WP.tbl K "_has_only")) (hx : H x = some (.ins C dx [])) (e : WP.Sn x H H') (cu : CurA K mg H' x c 0) : Z31 K mg H' d z x c L 0 := by
  obtain ⟨p, q, r, hd, hz, hl, h0⟩ := hd
  have keep : ∀ y xs, H y = some (.lst xs) → H' y = some (.lst xs) := fun y xs hy => e.k _ _ (fun z => by rw [z, hx] at hy; cases hy) hy WP.nt_lst
  obtain ⟨as, g, rr⟩ := rt
  refine ⟨⟨p, q, r, keep _ _ hd, hz, keep _ _ hl, h0⟩, cu, ⟨as, keep _ _ g, rt_map rr fun b xs hq => ?_⟩, ld, e.t _ tb⟩
  rcases hq with (q | ⟨ob, q⟩) | q
  · exact .inl (.inl (e.k _ _ (fun z => by rw [z, hx] at q; cases q) q WP.nt_tup))
  · exact .inl (.inr ⟨ob, e.k _ _ (fun z => by rw [z, hx] at q; cases q) q WP.nt_frz⟩)
  · exact .inr q
end
theorem OvAt.same {K : PySem.W.Frag} {H H' : Hp} {p : Addr} {o : Ov} (h : OvAt K H p o) (e : ∀ b xs, SqT K H b xs → SqT K H' b xs) : OvAt K H' p o := by
  cases o with
  | val v => exact e _ _ h
  | dec u s => obtain ⟨q, h1, h2⟩ := h; exact ⟨q, e _ _ h1, e _ _ h2⟩
  | flt r w => exact e _ _ h
def OvOk : Ov → Prop
  | .val (.str s) => WP.SOk s
  | .val (.int _) => True
  | .val (.bl _) => True
  | .val .non => True
  | .val _ => False
  | .dec _ _ => True
  | .flt _ w => ∀ c ∈ w, c < 128
theorem eqOv {K : PySem.W.Frag} {H : Hp} {p q : Addr} {o : Ov} (h1 : OvAt K H p o) (h2 : OvAt K H q o) (ok : OvOk o) : EqV K H 2 (.ref p) (.ref q) := by
  have kv : WP.SOk (SX.S kVALU) := WP.sok_S (by decide)
  cases o with
  | val v =>
    have hv : ∀ d, EqV K H d v v := fun d => by
      cases v with
      | str s => exact .str _ ok
      | int i => exact .int _
      | bl b => exact .bl _
      | non => exact .non
      | _ => exact absurd ok (fun z => z)
    exact .tup h1 h2 rfl (by show 2 ≤ 1000; decide) (pw_cons (.str _ kv) (pw_cons (hv _) pw_nil))
  | dec u s =>
    obtain ⟨a, h1, g1⟩ := h1
    obtain ⟨b, h2, g2⟩ := h2
    exact .tup h1 h2 rfl (by show 2 ≤ 1000; decide) (pw_cons (.str _ kv) (pw_cons (.tup g1 g2 rfl (by show 2 ≤ 1000; decide) (pw_cons (.int _) (pw_cons (.int _) pw_nil))) pw_nil))
  | flt r w => exact .tup h1 h2 rfl (by show 3 ≤ 1000; decide) (pw_cons (.str _ (WP.sok_S (by decide))) (pw_cons (.int _) (pw_cons (.str _ (WP.sok_S fun c hc => Nat.lt_trans (ok c hc) (by decide))) pw_nil)))
theorem refX_ok {rs : List (Nat × Tk)} {n : Nat} {w : List Nat} (hw : ∀ c ∈ w, c < 128) (hn : n ≤ rs.length) : OvOk (refX rs n w).1 ∧ (refX rs n w).2 ≤ rs.length := by
  refine ⟨fun c hc => ?_, hn⟩
  have hc : c ∈ rsn rs n w := hc
  unfold rsn at hc
  split at hc
  · exact (show ∀ c ∈ kENDW, c < 128 by decide) c hc
  · exact hw c hc
theorem intX_ok {rs : List (Nat × Tk)} {n : Nat} {lo hi : Int} (hn : n ≤ rs.length) : OvOk (intX rs n (nxt rs n false) lo hi).1 ∧ (intX rs n (nxt rs n false) lo hi).2 ≤ rs.length := by
  unfold intX
  by_cases h : MW.figs (nxt rs n false) = false
  · rw [if_pos h]; exact refX_ok (by decide) hn
  · rw [if_neg h]
    have := nxt_lt (rs := rs) (a := n) (b := false) (fun z => h (by rw [z]; rfl))
    split
    · exact refX_ok (by decide) hn
    · exact ⟨True.intro, this⟩
theorem outX_ok {rs : List (Nat × Tk)} (ok : RsOk rs) {n D : Nat} {ws : List (List Nat)} {bound : Int} (hn : n ≤ rs.length) (hne : ∀ w ∈ ws, w ≠ []) (hws : ws ≠ []) : OvOk (outX rs n D ws bound).1 ∧ (outX rs n D ws bound).2 ≤ rs.length := by
  have sok : ∀ b, WP.SOk (SX.S (nxt rs n b)) := fun b => WP.sok_S fun c hc => Nat.lt_trans ((ok.nx n b).2 c hc) (by decide)
  have one : ∀ {w : List Nat} {b}, nxt rs n b = w → w ≠ [] → n + 1 ≤ rs.length := fun e h => nxt_lt (by rw [e]; exact h)
  unfold outX
  split
  · exact ⟨sok _, hn⟩
  split
  · exact ⟨True.intro, hn⟩
  split
  · exact ⟨True.intro, hn⟩
  split
  · exact ⟨True.intro, hn⟩
  split
  · split
    · rename_i e
      exact ⟨True.intro, one e (by obtain ⟨w, r, rfl⟩ := List.exists_cons_of_ne_nil hws; exact hne w List.mem_cons_self)⟩
    · exact ⟨True.intro, hn⟩
  split
  · have hm : n + mtc rs n ws ≤ rs.length := mtc_end hn hne
    split
    · rename_i e
      rw [e] at hm
      exact ⟨True.intro, hm⟩
    · exact refX_ok (by decide) hm
  unfold takX
  split
  · split
    · rename_i e
      exact ⟨sok _, nxt_lt (fun z => by rw [z] at e; cases e)⟩
    · exact refX_ok (by decide) hn
  split
  · exact intX_ok hn
  split
  · exact intX_ok hn
  split
  · split
    · rename_i e
      have h1 := nxt_lt (rs := rs) (a := n) (b := false) (fun z => by rw [z] at e; cases e)
      cases MT.spell (nxt rs n false) with
      | none => exact refX_ok (by decide) hn
      | some x => exact ⟨True.intro, h1⟩
    · exact refX_ok (by decide) hn
  split
  · exact refX_ok (by decide) hn
  split
  · rename_i e
    exact ⟨sok _, nxt_lt (fun z => by rw [z] at e; exact absurd e.1 (by decide))⟩
  · exact refX_ok (by decide) hn
def sp_law (K : PySem.W.Frag) : Sp := fun vs H Q _ => ∃ (a : Addr) (ns : List Int), vs = [.ref a] ∧ SqL K H a (ns.map V.int) ∧ ns.length ≤ 63 ∧ GxR.TabG H (WP.tbl K "is_printable") ∧ GxR.TabG H (WP.tbl K "_has_only") ∧ ∀ H', Q (.bl true) H'
section
variable {P : Program} {w : World} {K : PySem.W.Frag} {mg : Str → Option Value} {base : Heap}
theorem ok_law {f : Addr} {fd : FuncData} (F : Fun K "law" "law" s_law f fd) (B : Blt w K mg) (c__law_draws : WP.Callee P w K mg base CX0 1 "_law_draws" ["script"] (sp__law_draws K mg)) (c__law_build : WP.Callee P w K mg base CX0 4 "_law_build" ["draws", "count"] (sp__law_build K mg)) (c_Cursor___init__ : WP.CalleeI P w K mg base (L2.CX P w) 6 "Cursor" ["self", "text"] (sp_Cursor___init__ K mg)) (c__law_same : WP.Callee P w K mg base CX0 3 "_law_same" ["actual", "expected"] (sp__law_same K mg 3)) (c__law_draw : WP.Callee P w K mg base CX0 1 "_law_draw" ["draws", "limit"] (sp__law_draw K mg)) (c__law_deed : WP.Callee P w K mg base CX0 3 "_law_deed" ["draws", "rows", "at"] (sp__law_deed K mg)) (c__law_due : WP.Callee P w K mg base CX0 5 "_law_due" ["rows", "at", "deed", "words", "bound"] (sp__law_due K mg)) (c_Cursor_is_done : WP.CalleeM P w K mg base CX0 1 "Cursor" "is_done" ["self"] (sp_Cursor_is_done K mg)) (c_Cursor_row : WP.CalleeP P w K mg base CX0 1 "Cursor" "row" ["self"] (sp_Cursor_row K mg)) (c__law_row : WP.Callee P w K mg base CX0 1 "_law_row" ["rows", "at"] (sp__law_row K mg)) (c__law_do : WP.Callee P w K mg base CX0 6 "_law_do" ["cursor", "deed", "words", "bound"] (sp__law_do K mg)) : FnOk P w K mg base CX0 8 f fd ["script"] (sp_law K) := by
  show D.Box _
  simp (discharger := (with_unfolding_all (
  obtain ⟨f_Cursor___init__, d_Cursor___init__, F_Cursor___init__, M_Cursor___init__, b_Cursor___init__⟩ := c_Cursor___init__.ex
  obtain ⟨f_Cursor_is_done, d_Cursor_is_done, F_Cursor_is_done, M_Cursor_is_done, b_Cursor_is_done⟩ := c_Cursor_is_done.ex
  refine F.ok sc_law (fun vs H Q E h => ?_) (fun cdv A outer s H vs Q E hr h => ?_)
  · first | (obtain ⟨_, rfl, _⟩ := h; rfl) | (obtain ⟨_, _, rfl, _⟩ := h; rfl) | (obtain ⟨_, _, _, rfl, _⟩ := h; rfl) | (obtain ⟨_, _, _, _, rfl, _⟩ := h; rfl) | (obtain ⟨_, _, _, _, _, rfl, _⟩ := h; rfl) | (obtain ⟨_, _, _, _, _, _, rfl, _⟩ := h; rfl) | (obtain ⟨_, _, _, _, _, _, _, rfl, _⟩ := h; rfl) | (obtain ⟨_, _, _, _, _, _, _, _, rfl, _⟩ := h; rfl) | (obtain ⟨rfl, _⟩ := h; rfl)
  · obtain ⟨a0, ns, rfl, hs, hl, hT1, hT2, k⟩ := h
    refine ⟨_, (pss_cons (ps_set (i := 1) sc_law.nd rfl (Or.inl rfl) (WP.pe_callC c__law_draws hr rfl pass0 (WP.pa_consN (pv 0) pa_nil)))
      (pss_cons (ps_asg (WP.pe_callC c__law_build hr rfl pass0 (WP.pa_consN (pv 1) (WP.pa_consN (WP.pe_callC c__law_draw hr rfl pass0 (WP.pa_consN (pv 1) (WP.pa_consN pe_int pa_nil))) pa_nil))) (pg_tup (by rfl) (pgs_cons (pg_name (i := 2) sc_law.nd rfl (Or.inl rfl)) (pgs_cons (pg_name (i := 3) sc_law.nd rfl (Or.inl rfl)) pgs_nil))))
      (pss_cons (ps_set (i := 4) sc_law.nd rfl (Or.inl rfl) (pe_make M_Cursor___init__ F_Cursor___init__ (hr.mono (by decide)) rfl B.k_Cursor.m b_Cursor___init__ .nil WP.pass0X (WP.pa_consN (pv 2) pa_nil)))
      (pss_cons (ps_set (i := 5) sc_law.nd rfl (Or.inl rfl) pe_int)
      (pss_cons (ps_for PassesOwn.never rfl (pi_range1 rfl B.b_range (WP.pa_consN (pe_op op_add pe_int (WP.pe_callC c__law_draw hr rfl pass0 (WP.pa_consN (pv 1) (WP.pa_consN pe_int pa_nil)))) pa_nil)) (pg_name (i := 6) sc_law.nd rfl (Or.inl rfl)) (pss_cons (ps_asg (WP.pe_callC c__law_deed hr rfl pass0 (WP.pa_consN (pv 1) (WP.pa_consN (pv 3) (WP.pa_consN (pv 5) pa_nil)))) (pg_tup (by rfl) (pgs_cons (pg_name (i := 7) sc_law.nd rfl (Or.inl rfl)) (pgs_cons (pg_name (i := 8) sc_law.nd rfl (Or.inl rfl)) (pgs_cons (pg_name (i := 9) sc_law.nd rfl (Or.inl rfl)) pgs_nil)))))
      (pss_cons (ps_asg (WP.pe_callC c__law_due hr rfl pass0 (WP.pa_consN (pv 3) (WP.pa_consN (pv 5) (WP.pa_consN (pv 7) (WP.pa_consN (pv 8) (WP.pa_consN (pv 9) pa_nil)))))) (pg_tup (by rfl) (pgs_cons (pg_name (i := 10) sc_law.nd rfl (Or.inl rfl)) (pgs_cons (pg_name (i := 5) sc_law.nd rfl (Or.inl rfl)) pgs_nil))))
      (pss_one (ps_if (pt_not (pt_val (WP.pe_callC c__law_same hr rfl pass0 (WP.pa_consN (WP.pe_callC c__law_do hr rfl pass0 (WP.pa_consN (pv 4) (WP.pa_consN (pv 7) (WP.pa_consN (pv 8) (WP.pa_consN (pv 9) pa_nil))))) (WP.pa_consN (pv 10) pa_nil))))) (pss_one (ps_ret pe_bl)) pss_nil)))))
      (pss_one (ps_ret (WP.pe_callC c__law_same hr rfl pass0 (WP.pa_consN (pe_tup (WP.pa_consN (pe_meth0 (pv 4) B.k_Cursor.c M_Cursor_is_done F_Cursor_is_done (hr.mono (by decide)) b_Cursor_is_done .nil pass0) (WP.pa_consN (WP.pe_propC (pv 4) B.k_Cursor c_Cursor_row hr) pa_nil))) (WP.pa_consN (pe_tup (WP.pa_consN (pe_cmpR op_eq (pv 5) (pe_callB WP.c_len (by rfl) B.b_len (by decide +kernel) (WP.pa_consN (pv 3) pa_nil)) (nomark _)) (WP.pa_consN (WP.pe_callC c__law_row hr rfl pass0 (WP.pa_consN (pv 3) (WP.pa_consN (pv 5) pa_nil))) pa_nil))) pa_nil)))))))))), ?_⟩
    k_updF
    refine ⟨a0, ns, rfl, hs, fun d z H1 hz hz0 hd0 e1 hd => ?_⟩
    have tabS : ∀ {G G' : Hp} {t : Addr}, GxR.TabG G t → Same G G' → GxR.TabG G' t := fun ⟨ps, h1, h2⟩ e => ⟨ps, e _ _ h1, h2⟩
    have tabX : ∀ {G G' : Hp} {t : Addr}, GxR.TabG G t → DS K G d z → WP.Sx d G G' → GxR.TabG G' t := fun ⟨ps, h1, h2⟩ D e => by
      obtain ⟨ys, hy⟩ := D.lst
      exact ⟨ps, e _ _ (fun z => by rw [z, hy] at h1; cases h1) h1, h2⟩
    have hT1 := tabS hT1 e1
    have hT2 := tabS hT2 e1
    k_updF
    refine ⟨d, z, _, rfl, by decide, WP.bt8 (by decide), hd, fun cv H2 c0 c1 s2 hd2 => ?_⟩
    have hT1 := tabX hT1 hd s2
    have hT2 := tabX hT2 hd s2
    k_updF
    refine ⟨d, z, cv.toNat, by rw [Int.toNat_of_nonneg c0]; rfl, by omega, hd2, fun P T L H3 s3 hd3 t fl ln nLd nLz hTt hL hne => ?_⟩
    have hT1 := tabX hT1 hd2 s3
    have hT2 := tabX hT2 hd2 s3
    clear s2 s3 hd2 hd e1 hs
    k_updF
    refine WP.unT hTt rfl ?_
    k_updF
    intro x dx hx hdx ndx
    have e4 := WP.same_made (C := WP.ca mg "Cursor") hx hdx
    have hx4 : upd (upd H3 dx (.own x)) x (.ins (WP.ca mg "Cursor") dx []) x = _ := upd_same
    generalize upd (upd H3 dx (.own x)) x (.ins (WP.ca mg "Cursor") dx []) = H4 at e4 hx4 ⊢
    have tl := t.len
    refine ⟨x, dx, rend P, rfl, hx4, .inl ⟨P, rfl, ⟨t.ok, t.adj, by omega, t.st⟩, fl, tabS hT1 e4, fun c H5 s5 cu er ed => ⟨rfl, ?_⟩⟩⟩
    have ok : RsOk c.rs := by
      rw [er]
      exact ⟨by omega, exps_ok 1 P t.ok t.st, hne⟩
    rw [← er] at hL
    have zz := Z31.ini (hd3.same e4) (hL.same e4) nLd (tabS hT2 e4) hx4 s5 cu
    clear hT1 hT2 hd3 hL hTt hx4 s5 cu e4 hne t fl er tl
    k_updF
    refine ⟨d, z, _, rfl, by decide, WP.bt8 (by decide), zz.ds, fun nv H6 n0 n1 s6 hd6 => ?_⟩
    have zz := zz.draw s6 hd6
    clear s6 hd6
    k_updF
    refine ⟨_, rfl, by omega, by omega, for_range (lo := 0) (n := _) (fun i σ' H' => ∃ (n : Nat) (z6 z7 z8 z9 z10 : Option V), σ' = [some (.ref a0), some (.ref d), some (.str (SX.S (rend P))), some (.ref L), some (.ref x), some (.int (n : Int)), z6, z7, z8, z9, z10] ∧ Z31 K mg H' d z x c L n) ⟨0, _, _, _, _, _, rfl, zz⟩ ?_ ?_⟩
    · rintro i σ' H7 hi ⟨n, z6, z7, z8, z9, z10, rfl, zz⟩
      have hn := zz.cu.n
      k_updF
      refine ⟨d, z, L, c.rs, n, rfl, zz.ds, zz.rt, zz.ld, ok, hn, fun t W D ws bound H8 s8 hd8 hD wl wne hW nW hTt => ?_⟩
      have zz := zz.draw s8 hd8
      have wsn : ws ≠ [] := fun z => by rw [z] at wl; cases wl
      obtain ⟨ook, ole⟩ := outX_ok ok (D := D) (bound := bound) hn wne wsn
      clear s8 hd8
      k_updF
      refine WP.unT hTt rfl ?_
      k_updF
      refine ⟨L, W, c.rs, n, D, bound, ws, rfl, zz.rt, ok, hn, hD, SqL.of hW, wsn, by omega, wne, fun t2 p2 H9 e9 hT2 o2 => ?_⟩
      have zz := zz.same e9
      have hW := e9 _ _ hW
      k_updF
      refine WP.unT hT2 rfl ?_
      k_updF
      refine ⟨x, W, c, n, D, bound, ws, rfl, zz.cu, ok, hD, hW, wl, wne, zz.tb, fun p3 H10 s10 oc10 o3 => ?_⟩
      have zq := zz.step s10 oc10 ole
      have o2 := o2.same fun b xs q => zz.cu.sqt s10 q
      k_updF
      refine ⟨_, _, rfl, eqOv o3 o2 ook, ?_⟩
      k_updF
      refine WP.brF rfl ?_
      k_updF
      exact ⟨_, _, _, _, _, _, rfl, zq⟩
    rintro σ' H7 ⟨n, z6, z7, z8, z9, z10, rfl, zz⟩
    k_updF
    refine WP.methV rfl zz.cu.o rfl ?_
    k_updF
    refine ⟨x, c, n, rfl, zz.cu, ?_⟩
    k_updF
    refine WP.propV rfl zz.cu.o ⟨x, c, n, rfl, zz.cu, ?_⟩
    k_updF
    refine ⟨WP.sz (show 2 ≤ 1000000 by decide), fun p1 hp1 => ?_⟩
    have e1 := WP.same_new (o := .tup [.bl (decide (n = c.rs.length)), .int (rowC c.rs n : Nat)]) hp1
    have g1 : upd H7 p1 (.tup [.bl (decide (n = c.rs.length)), .int (rowC c.rs n : Nat)]) p1 = _ := upd_same
    have zz := zz.same e1
    generalize upd H7 p1 _ = H8 at e1 g1 zz ⊢
    obtain ⟨xs, hL8, hlen⟩ := zz.rt.len
    k_updF
    refine WP.lenL hL8 ?_
    rw [hlen]
    k_updF
    refine ⟨L, c.rs, n, rfl, zz.rt, ok.z, by omega, fun m hm => ?_, fun z => by omega⟩
    obtain rfl : n = m := Int.ofNat.inj hm
    k_updF
    rw [show decide ((n : Int) = (c.rs.length : Int)) = decide (n = c.rs.length) from decide_eq_decide.mpr ⟨fun h => by omega, fun h => by omega⟩]
    refine ⟨WP.sz (show 2 ≤ 1000000 by decide), fun p2 hp2 => ?_⟩
    have e2 := WP.same_new (o := .tup [.bl (decide (n = c.rs.length)), .int (rowC c.rs n : Nat)]) hp2
    k_updF
    exact ⟨_, _, rfl, .tup (SqT.of (e2 _ _ g1)) (SqT.of upd_same) rfl (by show 2 ≤ 1000; decide) (pw_cons (.bl _) (pw_cons (.int _) pw_nil)), k _⟩
  ))) only [D.box_eq]
end
theorem all_mk {l : PySem.W.OpenLaw} {w : World} {K : PySem.W.Frag} {h : Heap} {mg : Str → Option Value} {fa : Addr} (X : K.In h) (G : h.Ns mainGlobals mg) (hfa : mg "law" = some (.ref fa))
    {C_Cursor : Addr} (on_Cursor : PySem.W.nsIn K mainGlobals "Cursor" = some (some (.ref C_Cursor))) (og_Cursor : PySem.W.plainGet K C_Cursor Str.empty = true) (oh_Cursor : PySem.W.hasDictIn K C_Cursor = true) (oo_Cursor : PySem.W.plainOver K C_Cursor = true) (os_Cursor : PySem.W.findIn K (.ref C_Cursor) "__setattr__" = some (some (.builtin "object.__setattr__"))) (om_Cursor : PySem.W.makesIn K C_Cursor = true) (ok_Cursor : PySem.W.keepIn K (.ref C_Cursor) = true)
    (ot_Cursor_0 : PySem.W.findIn K (.ref C_Cursor) "_tokens" = some none)
    (ot_Cursor_1 : PySem.W.findIn K (.ref C_Cursor) "_at" = some none)
    {C_BadProgram : Addr} (on_BadProgram : PySem.W.nsIn K mainGlobals "BadProgram" = some (some (.ref C_BadProgram))) (xo_BadProgram : L2.OexC K C_BadProgram) (xx_BadProgram : L2.XfC K C_BadProgram)
    (xc_BadProgram : L2.ExcC K C_BadProgram)
    (ot_BadProgram_0 : PySem.W.findIn K (.ref C_BadProgram) "line" = some none)
    (ot_BadProgram_1 : PySem.W.findIn K (.ref C_BadProgram) "reason" = some none)
    {fx0 : Addr} {odx0 anx0 : Option Addr} {slx0 : Array (Option Value)} {ocx0 dcx0 pmx0 cdx0 ctx0 : Value} {kVx0 : Value}
    (ax0 : PySem.W.nsIn K mainGlobals "_law_draws" = some (some (.ref fx0))) (lx0 : K.lookup fx0 = some ⟨ocx0, odx0, .func (PySem.W.fnOf "_law_draws" "_law_draws" (defArgs s__law_draws) (defBody s__law_draws) (defScope s__law_draws) .none kVx0 dcx0 pmx0 anx0 cdx0 ctx0), slx0⟩) (cx0 : PySem.W.codeIn K cdx0 "_law_draws" = true) (kx0 : PySem.W.keepIn K (.ref fx0) = true)
    {fx1 : Addr} {odx1 anx1 : Option Addr} {slx1 : Array (Option Value)} {ocx1 dcx1 pmx1 cdx1 ctx1 : Value} {kVx1 : Value}
    (ax1 : PySem.W.nsIn K mainGlobals "_law_draw" = some (some (.ref fx1))) (lx1 : K.lookup fx1 = some ⟨ocx1, odx1, .func (PySem.W.fnOf "_law_draw" "_law_draw" (defArgs s__law_draw) (defBody s__law_draw) (defScope s__law_draw) .none kVx1 dcx1 pmx1 anx1 cdx1 ctx1), slx1⟩) (cx1 : PySem.W.codeIn K cdx1 "_law_draw" = true) (kx1 : PySem.W.keepIn K (.ref fx1) = true)
    {fx2 : Addr} {odx2 anx2 : Option Addr} {slx2 : Array (Option Value)} {ocx2 dcx2 pmx2 cdx2 ctx2 : Value} {kVx2 : Value}
    (ax2 : PySem.W.nsIn K mainGlobals "_law_figures" = some (some (.ref fx2))) (lx2 : K.lookup fx2 = some ⟨ocx2, odx2, .func (PySem.W.fnOf "_law_figures" "_law_figures" (defArgs s__law_figures) (defBody s__law_figures) (defScope s__law_figures) .none kVx2 dcx2 pmx2 anx2 cdx2 ctx2), slx2⟩) (cx2 : PySem.W.codeIn K cdx2 "_law_figures" = true) (kx2 : PySem.W.keepIn K (.ref fx2) = true)
    {fx3 : Addr} {odx3 anx3 : Option Addr} {slx3 : Array (Option Value)} {ocx3 dcx3 pmx3 cdx3 ctx3 : Value} {kVx3 : Value}
    (ax3 : PySem.W.nsIn K mainGlobals "_law_characters" = some (some (.ref fx3))) (lx3 : K.lookup fx3 = some ⟨ocx3, odx3, .func (PySem.W.fnOf "_law_characters" "_law_characters" (defArgs s__law_characters) (defBody s__law_characters) (defScope s__law_characters) .none kVx3 dcx3 pmx3 anx3 cdx3 ctx3), slx3⟩) (cx3 : PySem.W.codeIn K cdx3 "_law_characters" = true) (kx3 : PySem.W.keepIn K (.ref fx3) = true)
    {fx4 : Addr} {odx4 anx4 : Option Addr} {slx4 : Array (Option Value)} {ocx4 dcx4 pmx4 cdx4 ctx4 : Value} {kVx4 : Value}
    (ax4 : PySem.W.nsIn K mainGlobals "_law_reserved" = some (some (.ref fx4))) (lx4 : K.lookup fx4 = some ⟨ocx4, odx4, .func (PySem.W.fnOf "_law_reserved" "_law_reserved" (defArgs s__law_reserved) (defBody s__law_reserved) (defScope s__law_reserved) .none kVx4 dcx4 pmx4 anx4 cdx4 ctx4), slx4⟩) (cx4 : PySem.W.codeIn K cdx4 "_law_reserved" = true) (kx4 : PySem.W.keepIn K (.ref fx4) = true)
    {fx5 : Addr} {odx5 anx5 : Option Addr} {slx5 : Array (Option Value)} {ocx5 dcx5 pmx5 cdx5 ctx5 : Value} {kVx5 : Value}
    (ax5 : PySem.W.nsIn K mainGlobals "_law_name" = some (some (.ref fx5))) (lx5 : K.lookup fx5 = some ⟨ocx5, odx5, .func (PySem.W.fnOf "_law_name" "_law_name" (defArgs s__law_name) (defBody s__law_name) (defScope s__law_name) .none kVx5 dcx5 pmx5 anx5 cdx5 ctx5), slx5⟩) (cx5 : PySem.W.codeIn K cdx5 "_law_name" = true) (kx5 : PySem.W.keepIn K (.ref fx5) = true)
    {fx6 : Addr} {odx6 anx6 : Option Addr} {slx6 : Array (Option Value)} {ocx6 dcx6 pmx6 cdx6 ctx6 : Value} {kVx6 : Value}
    (ax6 : PySem.W.nsIn K mainGlobals "_law_token" = some (some (.ref fx6))) (lx6 : K.lookup fx6 = some ⟨ocx6, odx6, .func (PySem.W.fnOf "_law_token" "_law_token" (defArgs s__law_token) (defBody s__law_token) (defScope s__law_token) .none kVx6 dcx6 pmx6 anx6 cdx6 ctx6), slx6⟩) (cx6 : PySem.W.codeIn K cdx6 "_law_token" = true) (kx6 : PySem.W.keepIn K (.ref fx6) = true)
    {fx7 : Addr} {odx7 anx7 : Option Addr} {slx7 : Array (Option Value)} {ocx7 dcx7 pmx7 cdx7 ctx7 : Value} {kVx7 : Value}
    (ax7 : PySem.W.nsIn K mainGlobals "_law_quoted" = some (some (.ref fx7))) (lx7 : K.lookup fx7 = some ⟨ocx7, odx7, .func (PySem.W.fnOf "_law_quoted" "_law_quoted" (defArgs s__law_quoted) (defBody s__law_quoted) (defScope s__law_quoted) .none kVx7 dcx7 pmx7 anx7 cdx7 ctx7), slx7⟩) (cx7 : PySem.W.codeIn K cdx7 "_law_quoted" = true) (kx7 : PySem.W.keepIn K (.ref fx7) = true)
    {fx8 : Addr} {odx8 anx8 : Option Addr} {slx8 : Array (Option Value)} {ocx8 dcx8 pmx8 cdx8 ctx8 : Value} {kVx8 : Value}
    (ax8 : PySem.W.nsIn K mainGlobals "_law_build" = some (some (.ref fx8))) (lx8 : K.lookup fx8 = some ⟨ocx8, odx8, .func (PySem.W.fnOf "_law_build" "_law_build" (defArgs s__law_build) (defBody s__law_build) (defScope s__law_build) .none kVx8 dcx8 pmx8 anx8 cdx8 ctx8), slx8⟩) (cx8 : PySem.W.codeIn K cdx8 "_law_build" = true) (kx8 : PySem.W.keepIn K (.ref fx8) = true)
    {fx9 : Addr} {odx9 anx9 : Option Addr} {slx9 : Array (Option Value)} {ocx9 dcx9 pmx9 cdx9 ctx9 : Value} {kVx9 : Value}
    (ax9 : PySem.W.findIn K (.ref C_BadProgram) "__init__" = some (some (.ref fx9))) (ix9 : PySem.W.isFn K (.ref fx9) = true) (lx9 : K.lookup fx9 = some ⟨ocx9, odx9, .func (PySem.W.fnOf "__init__" "BadProgram.__init__" (defArgs s_BadProgram___init__) (defBody s_BadProgram___init__) (defScope s_BadProgram___init__) .none kVx9 dcx9 pmx9 anx9 cdx9 ctx9), slx9⟩) (cx9 : PySem.W.codeIn K cdx9 "BadProgram.__init__" = true) (kx9 : PySem.W.keepIn K (.ref fx9) = true)
    (tfx9 : PySem.W.typeIn K (.ref fx9) = some (.type "function"))
    {fx10 Kcx10 Ktx10 : Addr} {odx10 anx10 : Option Addr} {slx10 : Array (Option Value)} {ocx10 kVx10 dcx10 pmx10 ctx10 : Value}
    (ax10 : PySem.W.nsIn K mainGlobals "is_printable" = some (some (.ref fx10))) (tbx10 : PySem.W.tabIn K "is_printable" = some (Kcx10, Ktx10)) (lx10 : K.lookup fx10 = some ⟨ocx10, odx10, .func (PySem.W.fnOf "is_printable" "is_printable" (defArgs s_is_printable) (defBody s_is_printable) (defScope s_is_printable) .none kVx10 dcx10 pmx10 anx10 (.ref Kcx10) ctx10), slx10⟩) (cx10 : PySem.W.codeIn K (.ref Kcx10) "is_printable" = true) (kx10 : PySem.W.keepIn K (.ref fx10) = true)
    (hdx10 : PySem.W.CodeHd h Kcx10 Ktx10 ∧ h.get? Ktx10 = some { cls := .none, data := .fields #[] }) (nkx10 : K.lookup Ktx10 = none)
    {fx11 : Addr} {odx11 anx11 : Option Addr} {slx11 : Array (Option Value)} {ocx11 dcx11 pmx11 cdx11 ctx11 : Value} {kVx11 : Value}
    (ax11 : PySem.W.nsIn K mainGlobals "_end_of_string" = some (some (.ref fx11))) (lx11 : K.lookup fx11 = some ⟨ocx11, odx11, .func (PySem.W.fnOf "_end_of_string" "_end_of_string" (defArgs s__end_of_string) (defBody s__end_of_string) (defScope s__end_of_string) .none kVx11 dcx11 pmx11 anx11 cdx11 ctx11), slx11⟩) (cx11 : PySem.W.codeIn K cdx11 "_end_of_string" = true) (kx11 : PySem.W.keepIn K (.ref fx11) = true)
    {fx12 : Addr} {odx12 anx12 : Option Addr} {slx12 : Array (Option Value)} {ocx12 dcx12 pmx12 cdx12 ctx12 : Value} {kVx12 : Value}
    (ax12 : PySem.W.nsIn K mainGlobals "_end_of_word" = some (some (.ref fx12))) (lx12 : K.lookup fx12 = some ⟨ocx12, odx12, .func (PySem.W.fnOf "_end_of_word" "_end_of_word" (defArgs s__end_of_word) (defBody s__end_of_word) (defScope s__end_of_word) .none kVx12 dcx12 pmx12 anx12 cdx12 ctx12), slx12⟩) (cx12 : PySem.W.codeIn K cdx12 "_end_of_word" = true) (kx12 : PySem.W.keepIn K (.ref fx12) = true)
    {fx13 : Addr} {odx13 anx13 : Option Addr} {slx13 : Array (Option Value)} {ocx13 dcx13 pmx13 cdx13 ctx13 : Value} {kVx13 : Value}
    (ax13 : PySem.W.nsIn K mainGlobals "_tokens_of_line" = some (some (.ref fx13))) (lx13 : K.lookup fx13 = some ⟨ocx13, odx13, .func (PySem.W.fnOf "_tokens_of_line" "_tokens_of_line" (defArgs s__tokens_of_line) (defBody s__tokens_of_line) (defScope s__tokens_of_line) .none kVx13 dcx13 pmx13 anx13 cdx13 ctx13), slx13⟩) (cx13 : PySem.W.codeIn K cdx13 "_tokens_of_line" = true) (kx13 : PySem.W.keepIn K (.ref fx13) = true)
    {fx14 : Addr} {odx14 anx14 : Option Addr} {slx14 : Array (Option Value)} {ocx14 dcx14 pmx14 cdx14 ctx14 : Value} {kVx14 : Value}
    (ax14 : PySem.W.nsIn K mainGlobals "tokens" = some (some (.ref fx14))) (lx14 : K.lookup fx14 = some ⟨ocx14, odx14, .func (PySem.W.fnOf "tokens" "tokens" (defArgs s_tokens) (defBody s_tokens) (defScope s_tokens) .none kVx14 dcx14 pmx14 anx14 cdx14 ctx14), slx14⟩) (cx14 : PySem.W.codeIn K cdx14 "tokens" = true) (kx14 : PySem.W.keepIn K (.ref fx14) = true)
    {fx15 : Addr} {odx15 anx15 : Option Addr} {slx15 : Array (Option Value)} {ocx15 dcx15 pmx15 cdx15 ctx15 : Value} {kVx15 : Value}
    (ax15 : PySem.W.findIn K (.ref C_Cursor) "__init__" = some (some (.ref fx15))) (ix15 : PySem.W.isFn K (.ref fx15) = true) (lx15 : K.lookup fx15 = some ⟨ocx15, odx15, .func (PySem.W.fnOf "__init__" "Cursor.__init__" (defArgs s_Cursor___init__) (defBody s_Cursor___init__) (defScope s_Cursor___init__) .none kVx15 dcx15 pmx15 anx15 cdx15 ctx15), slx15⟩) (cx15 : PySem.W.codeIn K cdx15 "Cursor.__init__" = true) (kx15 : PySem.W.keepIn K (.ref fx15) = true)
    {fx16 : Addr} {odx16 anx16 : Option Addr} {slx16 : Array (Option Value)} {ocx16 dcx16 pmx16 cdx16 ctx16 : Value} {kVx16 : Value}
    (ax16 : PySem.W.nsIn K mainGlobals "_law_same" = some (some (.ref fx16))) (lx16 : K.lookup fx16 = some ⟨ocx16, odx16, .func (PySem.W.fnOf "_law_same" "_law_same" (defArgs s__law_same) (defBody s__law_same) (defScope s__law_same) .none kVx16 dcx16 pmx16 anx16 cdx16 ctx16), slx16⟩) (cx16 : PySem.W.codeIn K cdx16 "_law_same" = true) (kx16 : PySem.W.keepIn K (.ref fx16) = true)
    {fx17 : Addr} {odx17 anx17 : Option Addr} {slx17 : Array (Option Value)} {ocx17 dcx17 pmx17 cdx17 ctx17 : Value} {kVx17 : Value}
    (ax17 : PySem.W.nsIn K mainGlobals "_law_is_name" = some (some (.ref fx17))) (lx17 : K.lookup fx17 = some ⟨ocx17, odx17, .func (PySem.W.fnOf "_law_is_name" "_law_is_name" (defArgs s__law_is_name) (defBody s__law_is_name) (defScope s__law_is_name) .none kVx17 dcx17 pmx17 anx17 cdx17 ctx17), slx17⟩) (cx17 : PySem.W.codeIn K cdx17 "_law_is_name" = true) (kx17 : PySem.W.keepIn K (.ref fx17) = true)
    {fx18 : Addr} {odx18 anx18 : Option Addr} {slx18 : Array (Option Value)} {ocx18 dcx18 pmx18 cdx18 ctx18 : Value} {kVx18 : Value}
    (ax18 : PySem.W.nsIn K mainGlobals "_law_are_figures" = some (some (.ref fx18))) (lx18 : K.lookup fx18 = some ⟨ocx18, odx18, .func (PySem.W.fnOf "_law_are_figures" "_law_are_figures" (defArgs s__law_are_figures) (defBody s__law_are_figures) (defScope s__law_are_figures) .none kVx18 dcx18 pmx18 anx18 cdx18 ctx18), slx18⟩) (cx18 : PySem.W.codeIn K cdx18 "_law_are_figures" = true) (kx18 : PySem.W.keepIn K (.ref fx18) = true)
    {fx19 : Addr} {odx19 anx19 : Option Addr} {slx19 : Array (Option Value)} {ocx19 dcx19 pmx19 cdx19 ctx19 : Value} {kVx19 : Value}
    (ax19 : PySem.W.nsIn K mainGlobals "_law_deed" = some (some (.ref fx19))) (lx19 : K.lookup fx19 = some ⟨ocx19, odx19, .func (PySem.W.fnOf "_law_deed" "_law_deed" (defArgs s__law_deed) (defBody s__law_deed) (defScope s__law_deed) .none kVx19 dcx19 pmx19 anx19 cdx19 ctx19), slx19⟩) (cx19 : PySem.W.codeIn K cdx19 "_law_deed" = true) (kx19 : PySem.W.keepIn K (.ref fx19) = true)
    {fx20 : Addr} {odx20 anx20 : Option Addr} {slx20 : Array (Option Value)} {ocx20 dcx20 pmx20 cdx20 ctx20 : Value} {kVx20 : Value}
    (ax20 : PySem.W.nsIn K mainGlobals "_law_row" = some (some (.ref fx20))) (lx20 : K.lookup fx20 = some ⟨ocx20, odx20, .func (PySem.W.fnOf "_law_row" "_law_row" (defArgs s__law_row) (defBody s__law_row) (defScope s__law_row) .none kVx20 dcx20 pmx20 anx20 cdx20 ctx20), slx20⟩) (cx20 : PySem.W.codeIn K cdx20 "_law_row" = true) (kx20 : PySem.W.keepIn K (.ref fx20) = true)
    {fx21 : Addr} {odx21 anx21 : Option Addr} {slx21 : Array (Option Value)} {ocx21 dcx21 pmx21 cdx21 ctx21 : Value} {kVx21 : Value}
    (ax21 : PySem.W.nsIn K mainGlobals "_law_refused" = some (some (.ref fx21))) (lx21 : K.lookup fx21 = some ⟨ocx21, odx21, .func (PySem.W.fnOf "_law_refused" "_law_refused" (defArgs s__law_refused) (defBody s__law_refused) (defScope s__law_refused) .none kVx21 dcx21 pmx21 anx21 cdx21 ctx21), slx21⟩) (cx21 : PySem.W.codeIn K cdx21 "_law_refused" = true) (kx21 : PySem.W.keepIn K (.ref fx21) = true)
    {fx22 : Addr} {odx22 anx22 : Option Addr} {slx22 : Array (Option Value)} {ocx22 dcx22 pmx22 cdx22 ctx22 : Value} {kVx22 : Value}
    (ax22 : PySem.W.nsIn K mainGlobals "_law_integer" = some (some (.ref fx22))) (lx22 : K.lookup fx22 = some ⟨ocx22, odx22, .func (PySem.W.fnOf "_law_integer" "_law_integer" (defArgs s__law_integer) (defBody s__law_integer) (defScope s__law_integer) .none kVx22 dcx22 pmx22 anx22 cdx22 ctx22), slx22⟩) (cx22 : PySem.W.codeIn K cdx22 "_law_integer" = true) (kx22 : PySem.W.keepIn K (.ref fx22) = true)
    {fx23 : Addr} {odx23 anx23 : Option Addr} {slx23 : Array (Option Value)} {ocx23 dcx23 pmx23 cdx23 ctx23 : Value} {kVx23 : Value}
    (ax23 : PySem.W.nsIn K mainGlobals "_law_parse" = some (some (.ref fx23))) (lx23 : K.lookup fx23 = some ⟨ocx23, odx23, .func (PySem.W.fnOf "_law_parse" "_law_parse" (defArgs s__law_parse) (defBody s__law_parse) (defScope s__law_parse) .none kVx23 dcx23 pmx23 anx23 cdx23 ctx23), slx23⟩) (cx23 : PySem.W.codeIn K cdx23 "_law_parse" = true) (kx23 : PySem.W.keepIn K (.ref fx23) = true)
    {fx24 : Addr} {odx24 anx24 : Option Addr} {slx24 : Array (Option Value)} {ocx24 dcx24 pmx24 cdx24 ctx24 : Value} {kVx24 : Value}
    (ax24 : PySem.W.nsIn K mainGlobals "_law_taken" = some (some (.ref fx24))) (lx24 : K.lookup fx24 = some ⟨ocx24, odx24, .func (PySem.W.fnOf "_law_taken" "_law_taken" (defArgs s__law_taken) (defBody s__law_taken) (defScope s__law_taken) .none kVx24 dcx24 pmx24 anx24 cdx24 ctx24), slx24⟩) (cx24 : PySem.W.codeIn K cdx24 "_law_taken" = true) (kx24 : PySem.W.keepIn K (.ref fx24) = true)
    {fx25 : Addr} {odx25 anx25 : Option Addr} {slx25 : Array (Option Value)} {ocx25 dcx25 pmx25 cdx25 ctx25 : Value} {kVx25 : Value}
    (ax25 : PySem.W.nsIn K mainGlobals "_law_due" = some (some (.ref fx25))) (lx25 : K.lookup fx25 = some ⟨ocx25, odx25, .func (PySem.W.fnOf "_law_due" "_law_due" (defArgs s__law_due) (defBody s__law_due) (defScope s__law_due) .none kVx25 dcx25 pmx25 anx25 cdx25 ctx25), slx25⟩) (cx25 : PySem.W.codeIn K cdx25 "_law_due" = true) (kx25 : PySem.W.keepIn K (.ref fx25) = true)
    {fx26 : Addr} {odx26 anx26 : Option Addr} {slx26 : Array (Option Value)} {ocx26 dcx26 pmx26 cdx26 ctx26 : Value} {kVx26 : Value}
    (ax26 : PySem.W.findIn K (.ref C_Cursor) "is_done" = some (some (.ref fx26))) (ix26 : PySem.W.isFn K (.ref fx26) = true) (lx26 : K.lookup fx26 = some ⟨ocx26, odx26, .func (PySem.W.fnOf "is_done" "Cursor.is_done" (defArgs s_Cursor_is_done) (defBody s_Cursor_is_done) (defScope s_Cursor_is_done) .none kVx26 dcx26 pmx26 anx26 cdx26 ctx26), slx26⟩) (cx26 : PySem.W.codeIn K cdx26 "Cursor.is_done" = true) (kx26 : PySem.W.keepIn K (.ref fx26) = true)
    {fx27 : Addr} {odx27 anx27 : Option Addr} {slx27 : Array (Option Value)} {ocx27 dcx27 pmx27 cdx27 ctx27 : Value} {kVx27 : Value}
    {prx27 : Addr} {rsx27 : List Value} (ax27 : PySem.W.findIn K (.ref C_Cursor) "row" = some (some (.ref prx27))) (pgx27 : PySem.W.specialIn K (.ref prx27) "__get__" = some (some (.builtin "property.__get__"))) (ptx27 : PySem.W.takesIn K (.ref prx27) = some true) (pcx27 : PySem.W.recIn K prx27 "property" = some (.ref fx27 :: rsx27))
    (lx27 : K.lookup fx27 = some ⟨ocx27, odx27, .func (PySem.W.fnOf "row" "Cursor.row" (defArgs s_Cursor_row) (defBody s_Cursor_row) (defScope s_Cursor_row) .none kVx27 dcx27 pmx27 anx27 cdx27 ctx27), slx27⟩) (cx27 : PySem.W.codeIn K cdx27 "Cursor.row" = true) (kx27 : PySem.W.keepIn K (.ref fx27) = true)
    {fx28 : Addr} {odx28 anx28 : Option Addr} {slx28 : Array (Option Value)} {ocx28 dcx28 pmx28 cdx28 ctx28 : Value} {kVx28 : Value}
    (ax28 : PySem.W.findIn K (.ref C_Cursor) "_next_of_kind" = some (some (.ref fx28))) (ix28 : PySem.W.isFn K (.ref fx28) = true) (lx28 : K.lookup fx28 = some ⟨ocx28, odx28, .func (PySem.W.fnOf "_next_of_kind" "Cursor._next_of_kind" (defArgs s_Cursor__next_of_kind) (defBody s_Cursor__next_of_kind) (defScope s_Cursor__next_of_kind) .none kVx28 dcx28 pmx28 anx28 cdx28 ctx28), slx28⟩) (cx28 : PySem.W.codeIn K cdx28 "Cursor._next_of_kind" = true) (kx28 : PySem.W.keepIn K (.ref fx28) = true)
    {fx29 : Addr} {odx29 anx29 : Option Addr} {slx29 : Array (Option Value)} {ocx29 dcx29 pmx29 cdx29 ctx29 : Value} {kVx29 : Value}
    (ax29 : PySem.W.findIn K (.ref C_Cursor) "peek" = some (some (.ref fx29))) (ix29 : PySem.W.isFn K (.ref fx29) = true) (lx29 : K.lookup fx29 = some ⟨ocx29, odx29, .func (PySem.W.fnOf "peek" "Cursor.peek" (defArgs s_Cursor_peek) (defBody s_Cursor_peek) (defScope s_Cursor_peek) .none kVx29 dcx29 pmx29 anx29 cdx29 ctx29), slx29⟩) (cx29 : PySem.W.codeIn K cdx29 "Cursor.peek" = true) (kx29 : PySem.W.keepIn K (.ref fx29) = true)
    {fx30 : Addr} {odx30 anx30 : Option Addr} {slx30 : Array (Option Value)} {ocx30 dcx30 pmx30 cdx30 ctx30 : Value} {kVx30 : Value}
    (ax30 : PySem.W.findIn K (.ref C_Cursor) "accept" = some (some (.ref fx30))) (ix30 : PySem.W.isFn K (.ref fx30) = true) (lx30 : K.lookup fx30 = some ⟨ocx30, odx30, .func (PySem.W.fnOf "accept" "Cursor.accept" (defArgs s_Cursor_accept) (defBody s_Cursor_accept) (defScope s_Cursor_accept) .none kVx30 dcx30 pmx30 anx30 cdx30 ctx30), slx30⟩) (cx30 : PySem.W.codeIn K cdx30 "Cursor.accept" = true) (kx30 : PySem.W.keepIn K (.ref fx30) = true)
    {fx31 : Addr} {odx31 anx31 : Option Addr} {slx31 : Array (Option Value)} {ocx31 dcx31 pmx31 cdx31 ctx31 : Value} {kVx31 : Value}
    {prx31 : Addr} {rsx31 : List Value} (ax31 : PySem.W.findIn K (.ref C_Cursor) "row_behind" = some (some (.ref prx31))) (pgx31 : PySem.W.specialIn K (.ref prx31) "__get__" = some (some (.builtin "property.__get__"))) (ptx31 : PySem.W.takesIn K (.ref prx31) = some true) (pcx31 : PySem.W.recIn K prx31 "property" = some (.ref fx31 :: rsx31))
    (lx31 : K.lookup fx31 = some ⟨ocx31, odx31, .func (PySem.W.fnOf "row_behind" "Cursor.row_behind" (defArgs s_Cursor_row_behind) (defBody s_Cursor_row_behind) (defScope s_Cursor_row_behind) .none kVx31 dcx31 pmx31 anx31 cdx31 ctx31), slx31⟩) (cx31 : PySem.W.codeIn K cdx31 "Cursor.row_behind" = true) (kx31 : PySem.W.keepIn K (.ref fx31) = true)
    {fx32 : Addr} {odx32 anx32 : Option Addr} {slx32 : Array (Option Value)} {ocx32 dcx32 pmx32 cdx32 ctx32 : Value} {kVx32 : Value}
    (ax32 : PySem.W.findIn K (.ref C_Cursor) "_refuse" = some (some (.ref fx32))) (ix32 : PySem.W.isFn K (.ref fx32) = true) (lx32 : K.lookup fx32 = some ⟨ocx32, odx32, .func (PySem.W.fnOf "_refuse" "Cursor._refuse" (defArgs s_Cursor__refuse) (defBody s_Cursor__refuse) (defScope s_Cursor__refuse) .none kVx32 dcx32 pmx32 anx32 cdx32 ctx32), slx32⟩) (cx32 : PySem.W.codeIn K cdx32 "Cursor._refuse" = true) (kx32 : PySem.W.keepIn K (.ref fx32) = true)
    {fx33 : Addr} {odx33 anx33 : Option Addr} {slx33 : Array (Option Value)} {ocx33 dcx33 pmx33 cdx33 ctx33 : Value} {kVx33 : Value}
    (ax33 : PySem.W.findIn K (.ref C_Cursor) "expect" = some (some (.ref fx33))) (ix33 : PySem.W.isFn K (.ref fx33) = true) (lx33 : K.lookup fx33 = some ⟨ocx33, odx33, .func (PySem.W.fnOf "expect" "Cursor.expect" (defArgs s_Cursor_expect) (defBody s_Cursor_expect) (defScope s_Cursor_expect) .none kVx33 dcx33 pmx33 anx33 cdx33 ctx33), slx33⟩) (cx33 : PySem.W.codeIn K cdx33 "Cursor.expect" = true) (kx33 : PySem.W.keepIn K (.ref fx33) = true)
    {fx34 Kcx34 Ktx34 : Addr} {odx34 anx34 : Option Addr} {slx34 : Array (Option Value)} {ocx34 kVx34 dcx34 pmx34 ctx34 : Value}
    (ax34 : PySem.W.nsIn K mainGlobals "_has_only" = some (some (.ref fx34))) (tbx34 : PySem.W.tabIn K "_has_only" = some (Kcx34, Ktx34)) (lx34 : K.lookup fx34 = some ⟨ocx34, odx34, .func (PySem.W.fnOf "_has_only" "_has_only" (defArgs s__has_only) (defBody s__has_only) (defScope s__has_only) .none kVx34 dcx34 pmx34 anx34 (.ref Kcx34) ctx34), slx34⟩) (cx34 : PySem.W.codeIn K (.ref Kcx34) "_has_only" = true) (kx34 : PySem.W.keepIn K (.ref fx34) = true)
    (hdx34 : PySem.W.CodeHd h Kcx34 Ktx34 ∧ h.get? Ktx34 = some { cls := .none, data := .fields #[] }) (nkx34 : K.lookup Ktx34 = none)
    {fx35 : Addr} {odx35 anx35 : Option Addr} {slx35 : Array (Option Value)} {ocx35 dcx35 pmx35 cdx35 ctx35 : Value} {kVx35 : Value}
    (ax35 : PySem.W.nsIn K mainGlobals "is_name" = some (some (.ref fx35))) (lx35 : K.lookup fx35 = some ⟨ocx35, odx35, .func (PySem.W.fnOf "is_name" "is_name" (defArgs s_is_name) (defBody s_is_name) (defScope s_is_name) .none kVx35 dcx35 pmx35 anx35 cdx35 ctx35), slx35⟩) (cx35 : PySem.W.codeIn K cdx35 "is_name" = true) (kx35 : PySem.W.keepIn K (.ref fx35) = true)
    {fx36 : Addr} {odx36 anx36 : Option Addr} {slx36 : Array (Option Value)} {ocx36 dcx36 pmx36 cdx36 ctx36 : Value} {kVx36 : Value}
    (ax36 : PySem.W.findIn K (.ref C_Cursor) "take_name" = some (some (.ref fx36))) (ix36 : PySem.W.isFn K (.ref fx36) = true) (lx36 : K.lookup fx36 = some ⟨ocx36, odx36, .func (PySem.W.fnOf "take_name" "Cursor.take_name" (defArgs s_Cursor_take_name) (defBody s_Cursor_take_name) (defScope s_Cursor_take_name) .none kVx36 dcx36 pmx36 anx36 cdx36 ctx36), slx36⟩) (cx36 : PySem.W.codeIn K cdx36 "Cursor.take_name" = true) (kx36 : PySem.W.keepIn K (.ref fx36) = true)
    {fx37 : Addr} {odx37 anx37 : Option Addr} {slx37 : Array (Option Value)} {ocx37 dcx37 pmx37 cdx37 ctx37 : Value} {kVx37 : Value}
    (ax37 : PySem.W.nsIn K mainGlobals "are_figures" = some (some (.ref fx37))) (lx37 : K.lookup fx37 = some ⟨ocx37, odx37, .func (PySem.W.fnOf "are_figures" "are_figures" (defArgs s_are_figures) (defBody s_are_figures) (defScope s_are_figures) .none kVx37 dcx37 pmx37 anx37 cdx37 ctx37), slx37⟩) (cx37 : PySem.W.codeIn K cdx37 "are_figures" = true) (kx37 : PySem.W.keepIn K (.ref fx37) = true)
    {fx38 : Addr} {odx38 anx38 : Option Addr} {slx38 : Array (Option Value)} {ocx38 dcx38 pmx38 cdx38 ctx38 : Value} {kVx38 : Value}
    (ax38 : PySem.W.nsIn K mainGlobals "_is_integer_word" = some (some (.ref fx38))) (lx38 : K.lookup fx38 = some ⟨ocx38, odx38, .func (PySem.W.fnOf "_is_integer_word" "_is_integer_word" (defArgs s__is_integer_word) (defBody s__is_integer_word) (defScope s__is_integer_word) .none kVx38 dcx38 pmx38 anx38 cdx38 ctx38), slx38⟩) (cx38 : PySem.W.codeIn K cdx38 "_is_integer_word" = true) (kx38 : PySem.W.keepIn K (.ref fx38) = true)
    {fx39 : Addr} {odx39 anx39 : Option Addr} {slx39 : Array (Option Value)} {ocx39 dcx39 pmx39 cdx39 ctx39 : Value} {Dx39 : Addr}
    (ax39 : PySem.W.findIn K (.ref C_Cursor) "take_integer" = some (some (.ref fx39))) (ix39 : PySem.W.isFn K (.ref fx39) = true) (lx39 : K.lookup fx39 = some ⟨ocx39, odx39, .func (PySem.W.fnOf "take_integer" "Cursor.take_integer" (defArgs s_Cursor_take_integer) (defBody s_Cursor_take_integer) (defScope s_Cursor_take_integer) .none (.ref Dx39) dcx39 pmx39 anx39 cdx39 ctx39), slx39⟩) (cx39 : PySem.W.codeIn K cdx39 "Cursor.take_integer" = true) (kx39 : PySem.W.keepIn K (.ref fx39) = true)
    {ktx39_0 : Tok} (kdx39_0 : PySem.W.nsIn K Dx39 "least" = some (some (.int 0 ktx39_0)))
    {fx40 : Addr} {odx40 anx40 : Option Addr} {slx40 : Array (Option Value)} {ocx40 dcx40 pmx40 cdx40 ctx40 : Value} {kVx40 : Value}
    (ax40 : PySem.W.nsIn K mainGlobals "is_numeric" = some (some (.ref fx40))) (lx40 : K.lookup fx40 = some ⟨ocx40, odx40, .func (PySem.W.fnOf "is_numeric" "is_numeric" (defArgs s_is_numeric) (defBody s_is_numeric) (defScope s_is_numeric) .none kVx40 dcx40 pmx40 anx40 cdx40 ctx40), slx40⟩) (cx40 : PySem.W.codeIn K cdx40 "is_numeric" = true) (kx40 : PySem.W.keepIn K (.ref fx40) = true)
    {fx41 : Addr} {odx41 anx41 : Option Addr} {slx41 : Array (Option Value)} {ocx41 dcx41 pmx41 cdx41 ctx41 : Value} {kVx41 : Value}
    (ax41 : PySem.W.nsIn K mainGlobals "normal" = some (some (.ref fx41))) (lx41 : K.lookup fx41 = some ⟨ocx41, odx41, .func (PySem.W.fnOf "normal" "normal" (defArgs s_normal) (defBody s_normal) (defScope s_normal) .none kVx41 dcx41 pmx41 anx41 cdx41 ctx41), slx41⟩) (cx41 : PySem.W.codeIn K cdx41 "normal" = true) (kx41 : PySem.W.keepIn K (.ref fx41) = true)
    {fx42 : Addr} {odx42 anx42 : Option Addr} {slx42 : Array (Option Value)} {ocx42 dcx42 pmx42 cdx42 ctx42 : Value} {kVx42 : Value}
    (ax42 : PySem.W.nsIn K mainGlobals "_is_whole" = some (some (.ref fx42))) (lx42 : K.lookup fx42 = some ⟨ocx42, odx42, .func (PySem.W.fnOf "_is_whole" "_is_whole" (defArgs s__is_whole) (defBody s__is_whole) (defScope s__is_whole) .none kVx42 dcx42 pmx42 anx42 cdx42 ctx42), slx42⟩) (cx42 : PySem.W.codeIn K cdx42 "_is_whole" = true) (kx42 : PySem.W.keepIn K (.ref fx42) = true)
    {fx43 : Addr} {odx43 anx43 : Option Addr} {slx43 : Array (Option Value)} {ocx43 dcx43 pmx43 cdx43 ctx43 : Value} {kVx43 : Value}
    (ax43 : PySem.W.nsIn K mainGlobals "parse" = some (some (.ref fx43))) (lx43 : K.lookup fx43 = some ⟨ocx43, odx43, .func (PySem.W.fnOf "parse" "parse" (defArgs s_parse) (defBody s_parse) (defScope s_parse) .none kVx43 dcx43 pmx43 anx43 cdx43 ctx43), slx43⟩) (cx43 : PySem.W.codeIn K cdx43 "parse" = true) (kx43 : PySem.W.keepIn K (.ref fx43) = true)
    {fx44 : Addr} {odx44 anx44 : Option Addr} {slx44 : Array (Option Value)} {ocx44 dcx44 pmx44 cdx44 ctx44 : Value} {kVx44 : Value}
    (ax44 : PySem.W.findIn K (.ref C_Cursor) "take_decimal" = some (some (.ref fx44))) (ix44 : PySem.W.isFn K (.ref fx44) = true) (lx44 : K.lookup fx44 = some ⟨ocx44, odx44, .func (PySem.W.fnOf "take_decimal" "Cursor.take_decimal" (defArgs s_Cursor_take_decimal) (defBody s_Cursor_take_decimal) (defScope s_Cursor_take_decimal) .none kVx44 dcx44 pmx44 anx44 cdx44 ctx44), slx44⟩) (cx44 : PySem.W.codeIn K cdx44 "Cursor.take_decimal" = true) (kx44 : PySem.W.keepIn K (.ref fx44) = true)
    {fx45 : Addr} {odx45 anx45 : Option Addr} {slx45 : Array (Option Value)} {ocx45 dcx45 pmx45 cdx45 ctx45 : Value} {kVx45 : Value}
    (ax45 : PySem.W.findIn K (.ref C_Cursor) "take_string" = some (some (.ref fx45))) (ix45 : PySem.W.isFn K (.ref fx45) = true) (lx45 : K.lookup fx45 = some ⟨ocx45, odx45, .func (PySem.W.fnOf "take_string" "Cursor.take_string" (defArgs s_Cursor_take_string) (defBody s_Cursor_take_string) (defScope s_Cursor_take_string) .none kVx45 dcx45 pmx45 anx45 cdx45 ctx45), slx45⟩) (cx45 : PySem.W.codeIn K cdx45 "Cursor.take_string" = true) (kx45 : PySem.W.keepIn K (.ref fx45) = true)
    {fx46 : Addr} {odx46 anx46 : Option Addr} {slx46 : Array (Option Value)} {ocx46 dcx46 pmx46 cdx46 ctx46 : Value} {kVx46 : Value}
    (ax46 : PySem.W.nsIn K mainGlobals "_law_do" = some (some (.ref fx46))) (lx46 : K.lookup fx46 = some ⟨ocx46, odx46, .func (PySem.W.fnOf "_law_do" "_law_do" (defArgs s__law_do) (defBody s__law_do) (defScope s__law_do) .none kVx46 dcx46 pmx46 anx46 cdx46 ctx46), slx46⟩) (cx46 : PySem.W.codeIn K cdx46 "_law_do" = true) (kx46 : PySem.W.keepIn K (.ref fx46) = true)
    {fx47 : Addr} {odx47 anx47 : Option Addr} {slx47 : Array (Option Value)} {ocx47 dcx47 pmx47 cdx47 ctx47 : Value} {kVx47 : Value}
    (ax47 : PySem.W.nsIn K mainGlobals "law" = some (some (.ref fx47))) (lx47 : K.lookup fx47 = some ⟨ocx47, odx47, .func (PySem.W.fnOf "law" "law" (defArgs s_law) (defBody s_law) (defScope s_law) .none kVx47 dcx47 pmx47 anx47 cdx47 ctx47), slx47⟩) (cx47 : PySem.W.codeIn K cdx47 "law" = true) (kx47 : PySem.W.keepIn K (.ref fx47) = true)
    (z_all : PySem.W.nsIn K mainGlobals "all" = some none)
    (z_bool : PySem.W.nsIn K mainGlobals "bool" = some none)
    (z_enumerate : PySem.W.nsIn K mainGlobals "enumerate" = some none)
    (z_int : PySem.W.nsIn K mainGlobals "int" = some none)
    (z_isinstance : PySem.W.nsIn K mainGlobals "isinstance" = some none)
    (z_len : PySem.W.nsIn K mainGlobals "len" = some none)
    (z_list : PySem.W.nsIn K mainGlobals "list" = some none)
    (z_min : PySem.W.nsIn K mainGlobals "min" = some none)
    (z_ord : PySem.W.nsIn K mainGlobals "ord" = some none)
    (z_range : PySem.W.nsIn K mainGlobals "range" = some none)
    (z_str : PySem.W.nsIn K mainGlobals "str" = some none)
    (z_tuple : PySem.W.nsIn K mainGlobals "tuple" = some none)
    {t_DOUBLED_QUOTE : Tok} (g_DOUBLED_QUOTE : PySem.W.nsIn K mainGlobals "DOUBLED_QUOTE" = some (some (.str "''" t_DOUBLED_QUOTE)))
    {t_FIGURES : Tok} (g_FIGURES : PySem.W.nsIn K mainGlobals "FIGURES" = some (some (.str "0123456789" t_FIGURES)))
    {t_FIRST_PRINTABLE : Tok} (g_FIRST_PRINTABLE : PySem.W.nsIn K mainGlobals "FIRST_PRINTABLE" = some (some (.int 32 t_FIRST_PRINTABLE)))
    {t_LAST_PRINTABLE : Tok} (g_LAST_PRINTABLE : PySem.W.nsIn K mainGlobals "LAST_PRINTABLE" = some (some (.int 126 t_LAST_PRINTABLE)))
    {t_LETTERS : Tok} (g_LETTERS : PySem.W.nsIn K mainGlobals "LETTERS" = some (some (.str "abcdefghijklmnopqrstuvwxyz" t_LETTERS)))
    {t_MOST_DIGITS : Tok} (g_MOST_DIGITS : PySem.W.nsIn K mainGlobals "MOST_DIGITS" = some (some (.int 18 t_MOST_DIGITS)))
    {t_MOST_NAME : Tok} (g_MOST_NAME : PySem.W.nsIn K mainGlobals "MOST_NAME" = some (some (.int 20 t_MOST_NAME)))
    {t_MOST_PROGRAM : Tok} (g_MOST_PROGRAM : PySem.W.nsIn K mainGlobals "MOST_PROGRAM" = some (some (.int 40000 t_MOST_PROGRAM)))
    {t_MOST_TEXT : Tok} (g_MOST_TEXT : PySem.W.nsIn K mainGlobals "MOST_TEXT" = some (some (.int 80 t_MOST_TEXT)))
    {t_NOT_PRINTABLE : Tok} (g_NOT_PRINTABLE : PySem.W.nsIn K mainGlobals "NOT_PRINTABLE" = some (some (.int 37 t_NOT_PRINTABLE)))
    {t_QUOTE : Tok} (g_QUOTE : PySem.W.nsIn K mainGlobals "QUOTE" = some (some (.str "'" t_QUOTE)))
    {a_RESERVED : Addr} {d_RESERVED : Option Addr} {n_RESERVED : Nat} {s_RESERVED : Array (Option Value)} {TRESERVED_0 TRESERVED_1 TRESERVED_2 TRESERVED_3 TRESERVED_4 TRESERVED_5 TRESERVED_6 TRESERVED_7 TRESERVED_8 TRESERVED_9 TRESERVED_10 TRESERVED_11 TRESERVED_12 TRESERVED_13 TRESERVED_14 TRESERVED_15 TRESERVED_16 TRESERVED_17 TRESERVED_18 TRESERVED_19 TRESERVED_20 TRESERVED_21 TRESERVED_22 TRESERVED_23 TRESERVED_24 TRESERVED_25 TRESERVED_26 TRESERVED_27 TRESERVED_28 TRESERVED_29 TRESERVED_30 TRESERVED_31 TRESERVED_32 TRESERVED_33 TRESERVED_34 TRESERVED_35 TRESERVED_36 TRESERVED_37 TRESERVED_38 TRESERVED_39 TRESERVED_40 TRESERVED_41 : Tok} (g_RESERVED : PySem.W.nsIn K mainGlobals "RESERVED" = some (some (.ref a_RESERVED))) (h_RESERVED : K.lookup a_RESERVED = some ⟨.type "tuple", d_RESERVED, .seq #[.str ("program" : Str) TRESERVED_0, .str ("data" : Str) TRESERVED_1, .str ("files" : Str) TRESERVED_2, .str ("procedure" : Str) TRESERVED_3, .str ("picture" : Str) TRESERVED_4, .str ("occurs" : Str) TRESERVED_5, .str ("value" : Str) TRESERVED_6, .str ("input" : Str) TRESERVED_7, .str ("output" : Str) TRESERVED_8, .str ("record" : Str) TRESERVED_9, .str ("move" : Str) TRESERVED_10, .str ("to" : Str) TRESERVED_11, .str ("set" : Str) TRESERVED_12, .str ("rounded" : Str) TRESERVED_13, .str ("else" : Str) TRESERVED_14, .str ("end" : Str) TRESERVED_15, .str ("divide" : Str) TRESERVED_16, .str ("by" : Str) TRESERVED_17, .str ("giving" : Str) TRESERVED_18, .str ("remainder" : Str) TRESERVED_19, .str ("if" : Str) TRESERVED_20, .str ("then" : Str) TRESERVED_21, .str ("perform" : Str) TRESERVED_22, .str ("thru" : Str) TRESERVED_23, .str ("times" : Str) TRESERVED_24, .str ("until" : Str) TRESERVED_25, .str ("varying" : Str) TRESERVED_26, .str ("from" : Str) TRESERVED_27, .str ("read" : Str) TRESERVED_28, .str ("at" : Str) TRESERVED_29, .str ("bad" : Str) TRESERVED_30, .str ("write" : Str) TRESERVED_31, .str ("show" : Str) TRESERVED_32, .str ("sort" : Str) TRESERVED_33, .str ("descending" : Str) TRESERVED_34, .str ("clear" : Str) TRESERVED_35, .str ("stop" : Str) TRESERVED_36, .str ("not" : Str) TRESERVED_37, .str ("and" : Str) TRESERVED_38, .str ("or" : Str) TRESERVED_39, .str ("digits" : Str) TRESERVED_40, .str ("text" : Str) TRESERVED_41] n_RESERVED, s_RESERVED⟩)
    (tn_DOUBLED_QUOTE_QUOTE : t_DOUBLED_QUOTE ≠ 0 ∧ t_QUOTE ≠ 0 ∧ t_DOUBLED_QUOTE ≠ t_QUOTE)
    {aC_BadDecimal : Addr} (n_BadDecimal : PySem.W.nsIn K mainGlobals "BadDecimal" = some (some (.ref aC_BadDecimal))) (x_BadDecimal : PySem.W.excIn K aC_BadDecimal [.type "ValueError", .type "Exception", .type "BaseException", .type "object"] "ValueError.__new__" = true) (kc_BadDecimal : PySem.W.keepIn K (.ref aC_BadDecimal) = true) (tc_BadDecimal : PySem.W.typeIn K (.ref aC_BadDecimal) = some (.type "type"))
    (hg_BadDecimal : PySem.W.findIn K (.ref aC_BadDecimal) "__getattribute__" = some (some (.builtin "BaseException.__getattribute__"))) (hk_BadDecimal : PySem.W.findIn K (.ref aC_BadDecimal) "__getattr__" = some none) (hs_BadDecimal : PySem.W.subIn K (.ref aC_BadDecimal) (.type "BaseException") = some true) (hd_BadDecimal : PySem.W.hasDictIn K aC_BadDecimal = true) (ha_BadDecimal : PySem.W.findIn K (.ref aC_BadDecimal) "__class__" = some (some (.builtin "object.__class__"))) (hm_BadDecimal : PySem.W.mroIn K aC_BadDecimal (.type "object") = some true)
    (hn_ : PySem.W.specialIn K (.builtin "object.__class__") "__get__" = some (some (.builtin "getset_descriptor.__get__"))) (ht_ : PySem.W.takesIn K (.builtin "object.__class__") = some true)
    (s_BadDecimal_BadDecimal : PySem.W.subIn K (.ref aC_BadDecimal) (.ref aC_BadDecimal) = some true)
    (s_BadDecimal_BadProgram : PySem.W.subIn K (.ref aC_BadDecimal) (.ref C_BadProgram) = some false)
    (s_BadProgram_BadDecimal : PySem.W.subIn K (.ref C_BadProgram) (.ref aC_BadDecimal) = some false)
    (s_BadProgram_BadProgram : PySem.W.subIn K (.ref C_BadProgram) (.ref C_BadProgram) = some true)
    : LamX.LawAtS l w K CX0 8 63 "script" mg fa h := by
  have e := hfa.symm.trans (PySem.W.mg_of X G ax47)
  cases e
  have B : Blt w K mg := ⟨PySem.W.mg_none_of X G z_all, PySem.W.mg_none_of X G z_bool, PySem.W.mg_none_of X G z_enumerate, PySem.W.mg_none_of X G z_int, PySem.W.mg_none_of X G z_isinstance, PySem.W.mg_none_of X G z_len, PySem.W.mg_none_of X G z_list, PySem.W.mg_none_of X G z_min, PySem.W.mg_none_of X G z_ord, PySem.W.mg_none_of X G z_range, PySem.W.mg_none_of X G z_str, PySem.W.mg_none_of X G z_tuple, ⟨_, PySem.W.mg_of X G g_DOUBLED_QUOTE, _, congrArg (Value.str · _) (by decide +kernel)⟩, ⟨_, PySem.W.mg_of X G g_FIGURES, _, congrArg (Value.str · _) (by decide +kernel)⟩, ⟨_, PySem.W.mg_of X G g_FIRST_PRINTABLE, _, rfl⟩, ⟨_, PySem.W.mg_of X G g_LAST_PRINTABLE, _, rfl⟩, ⟨_, PySem.W.mg_of X G g_LETTERS, _, congrArg (Value.str · _) (by decide +kernel)⟩, ⟨_, PySem.W.mg_of X G g_MOST_DIGITS, _, rfl⟩, ⟨_, PySem.W.mg_of X G g_MOST_NAME, _, rfl⟩, ⟨_, PySem.W.mg_of X G g_MOST_PROGRAM, _, rfl⟩, ⟨_, PySem.W.mg_of X G g_MOST_TEXT, _, rfl⟩, ⟨_, PySem.W.mg_of X G g_NOT_PRINTABLE, _, rfl⟩, ⟨_, PySem.W.mg_of X G g_QUOTE, _, congrArg (Value.str · _) (by decide +kernel)⟩, WP.KTp.mk' (PySem.W.mg_of X G g_RESERVED) (fun _ => .inr ⟨_, _, _, h_RESERVED, rfl, rfl, WP.sz (show 42 ≤ 1000000 by decide), (.cons ⟨_, congrArg (Value.str · _) (by decide +kernel)⟩ (.cons ⟨_, congrArg (Value.str · _) (by decide +kernel)⟩ (.cons ⟨_, congrArg (Value.str · _) (by decide +kernel)⟩ (.cons ⟨_, congrArg (Value.str · _) (by decide +kernel)⟩ (.cons ⟨_, congrArg (Value.str · _) (by decide +kernel)⟩ (.cons ⟨_, congrArg (Value.str · _) (by decide +kernel)⟩ (.cons ⟨_, congrArg (Value.str · _) (by decide +kernel)⟩ (.cons ⟨_, congrArg (Value.str · _) (by decide +kernel)⟩ (.cons ⟨_, congrArg (Value.str · _) (by decide +kernel)⟩ (.cons ⟨_, congrArg (Value.str · _) (by decide +kernel)⟩ (.cons ⟨_, congrArg (Value.str · _) (by decide +kernel)⟩ (.cons ⟨_, congrArg (Value.str · _) (by decide +kernel)⟩ (.cons ⟨_, congrArg (Value.str · _) (by decide +kernel)⟩ (.cons ⟨_, congrArg (Value.str · _) (by decide +kernel)⟩ (.cons ⟨_, congrArg (Value.str · _) (by decide +kernel)⟩ (.cons ⟨_, congrArg (Value.str · _) (by decide +kernel)⟩ (.cons ⟨_, congrArg (Value.str · _) (by decide +kernel)⟩ (.cons ⟨_, congrArg (Value.str · _) (by decide +kernel)⟩ (.cons ⟨_, congrArg (Value.str · _) (by decide +kernel)⟩ (.cons ⟨_, congrArg (Value.str · _) (by decide +kernel)⟩ (.cons ⟨_, congrArg (Value.str · _) (by decide +kernel)⟩ (.cons ⟨_, congrArg (Value.str · _) (by decide +kernel)⟩ (.cons ⟨_, congrArg (Value.str · _) (by decide +kernel)⟩ (.cons ⟨_, congrArg (Value.str · _) (by decide +kernel)⟩ (.cons ⟨_, congrArg (Value.str · _) (by decide +kernel)⟩ (.cons ⟨_, congrArg (Value.str · _) (by decide +kernel)⟩ (.cons ⟨_, congrArg (Value.str · _) (by decide +kernel)⟩ (.cons ⟨_, congrArg (Value.str · _) (by decide +kernel)⟩ (.cons ⟨_, congrArg (Value.str · _) (by decide +kernel)⟩ (.cons ⟨_, congrArg (Value.str · _) (by decide +kernel)⟩ (.cons ⟨_, congrArg (Value.str · _) (by decide +kernel)⟩ (.cons ⟨_, congrArg (Value.str · _) (by decide +kernel)⟩ (.cons ⟨_, congrArg (Value.str · _) (by decide +kernel)⟩ (.cons ⟨_, congrArg (Value.str · _) (by decide +kernel)⟩ (.cons ⟨_, congrArg (Value.str · _) (by decide +kernel)⟩ (.cons ⟨_, congrArg (Value.str · _) (by decide +kernel)⟩ (.cons ⟨_, congrArg (Value.str · _) (by decide +kernel)⟩ (.cons ⟨_, congrArg (Value.str · _) (by decide +kernel)⟩ (.cons ⟨_, congrArg (Value.str · _) (by decide +kernel)⟩ (.cons ⟨_, congrArg (Value.str · _) (by decide +kernel)⟩ (.cons ⟨_, congrArg (Value.str · _) (by decide +kernel)⟩ (.cons ⟨_, congrArg (Value.str · _) (by decide +kernel)⟩ .nil))))))))))))))))))))))))))))))))))))))))))⟩), ⟨⟨_, _, PySem.W.mg_of X G g_DOUBLED_QUOTE, PySem.W.mg_of X G g_QUOTE, tn_DOUBLED_QUOTE_QUOTE, by decide⟩⟩, WP.ExiOk.mk' (PySem.W.mg_of X G on_BadProgram) xo_BadProgram xx_BadProgram (List.forall_mem_cons.mpr ⟨ot_BadProgram_0, (List.forall_mem_cons.mpr ⟨ot_BadProgram_1, (fun _ h => nomatch h)⟩)⟩) xc_BadProgram, WP.ClsOk.mk' (PySem.W.mg_of X G on_Cursor) ⟨og_Cursor, oh_Cursor, oo_Cursor, os_Cursor⟩ (List.forall_mem_cons.mpr ⟨ot_Cursor_0, (List.forall_mem_cons.mpr ⟨ot_Cursor_1, (fun _ h => nomatch h)⟩)⟩), WP.ExcOk.mk' (PySem.W.mg_of X G n_BadDecimal) ⟨x_BadDecimal, kc_BadDecimal, tc_BadDecimal, ⟨hg_BadDecimal, hk_BadDecimal, hs_BadDecimal, hd_BadDecimal, ha_BadDecimal, hn_, ht_, hm_BadDecimal⟩⟩, by rw [WP.ca_of (PySem.W.mg_of X G n_BadDecimal)]; exact s_BadDecimal_BadDecimal, by rw [WP.ca_of (PySem.W.mg_of X G n_BadDecimal), WP.ca_of (PySem.W.mg_of X G on_BadProgram)]; exact s_BadDecimal_BadProgram, by rw [WP.ca_of (PySem.W.mg_of X G on_BadProgram), WP.ca_of (PySem.W.mg_of X G n_BadDecimal)]; exact s_BadProgram_BadDecimal, by rw [WP.ca_of (PySem.W.mg_of X G on_BadProgram)]; exact s_BadProgram_BadProgram⟩
  have Fx0 := fun_mk (st := s__law_draws) lx0 cx0 kx0
  have bx0 := Fx0.binds (ps := ["script"]) fun _ _ _ _ _ _ us hl => match us, hl with | [_], _ => rfl
  have Cx0 : ∀ base : Heap, K.In base → base.Ns mainGlobals mg → (∀ p ∈ ([(Kcx10, Ktx10), (Kcx34, Ktx34)] : List (Addr × Addr)), LamX.TabB base mg p.1 p.2) → WP.Callee l.prog w K mg base CX0 1 "_law_draws" ["script"] (sp__law_draws K mg) := fun base p1 p2 p3 => WP.Callee.mk' (ok__law_draws Fx0 B ) (PySem.W.mg_of X G ax0) kx0 bx0
  have Fx1 := fun_mk (st := s__law_draw) lx1 cx1 kx1
  have bx1 := Fx1.binds (ps := ["draws", "limit"]) fun _ _ _ _ _ _ us hl => match us, hl with | [_, _], _ => rfl
  have Cx1 : ∀ base : Heap, K.In base → base.Ns mainGlobals mg → (∀ p ∈ ([(Kcx10, Ktx10), (Kcx34, Ktx34)] : List (Addr × Addr)), LamX.TabB base mg p.1 p.2) → WP.Callee l.prog w K mg base CX0 1 "_law_draw" ["draws", "limit"] (sp__law_draw K mg) := fun base p1 p2 p3 => WP.Callee.mk' (ok__law_draw Fx1 B ) (PySem.W.mg_of X G ax1) kx1 bx1
  have Fx2 := fun_mk (st := s__law_figures) lx2 cx2 kx2
  have bx2 := Fx2.binds (ps := ["draws", "size"]) fun _ _ _ _ _ _ us hl => match us, hl with | [_, _], _ => rfl
  have Cx2 : ∀ base : Heap, K.In base → base.Ns mainGlobals mg → (∀ p ∈ ([(Kcx10, Ktx10), (Kcx34, Ktx34)] : List (Addr × Addr)), LamX.TabB base mg p.1 p.2) → WP.Callee l.prog w K mg base CX0 2 "_law_figures" ["draws", "size"] (sp__law_figures K mg) := fun base p1 p2 p3 => WP.Callee.mk' (ok__law_figures Fx2 B (Cx1 base p1 p2 p3)) (PySem.W.mg_of X G ax2) kx2 bx2
  have Fx3 := fun_mk (st := s__law_characters) lx3 cx3 kx3
  have bx3 := Fx3.binds (ps := ["draws", "most"]) fun _ _ _ _ _ _ us hl => match us, hl with | [_, _], _ => rfl
  have Cx3 : ∀ base : Heap, K.In base → base.Ns mainGlobals mg → (∀ p ∈ ([(Kcx10, Ktx10), (Kcx34, Ktx34)] : List (Addr × Addr)), LamX.TabB base mg p.1 p.2) → WP.Callee l.prog w K mg base CX0 2 "_law_characters" ["draws", "most"] (sp__law_characters K mg) := fun base p1 p2 p3 => WP.Callee.mk' (ok__law_characters Fx3 B (Cx1 base p1 p2 p3)) (PySem.W.mg_of X G ax3) kx3 bx3
  have Fx4 := fun_mk (st := s__law_reserved) lx4 cx4 kx4
  have bx4 := Fx4.binds (ps := []) fun _ _ _ _ _ _ us hl => match us, hl with | [], _ => rfl
  have Cx4 : ∀ base : Heap, K.In base → base.Ns mainGlobals mg → (∀ p ∈ ([(Kcx10, Ktx10), (Kcx34, Ktx34)] : List (Addr × Addr)), LamX.TabB base mg p.1 p.2) → WP.Callee l.prog w K mg base CX0 1 "_law_reserved" [] (sp__law_reserved K mg) := fun base p1 p2 p3 => WP.Callee.mk' (ok__law_reserved Fx4 B ) (PySem.W.mg_of X G ax4) kx4 bx4
  have Fx5 := fun_mk (st := s__law_name) lx5 cx5 kx5
  have bx5 := Fx5.binds (ps := ["draws"]) fun _ _ _ _ _ _ us hl => match us, hl with | [_], _ => rfl
  have Cx5 : ∀ base : Heap, K.In base → base.Ns mainGlobals mg → (∀ p ∈ ([(Kcx10, Ktx10), (Kcx34, Ktx34)] : List (Addr × Addr)), LamX.TabB base mg p.1 p.2) → WP.Callee l.prog w K mg base CX0 2 "_law_name" ["draws"] (sp__law_name K mg) := fun base p1 p2 p3 => WP.Callee.mk' (ok__law_name Fx5 B (Cx1 base p1 p2 p3) (Cx4 base p1 p2 p3)) (PySem.W.mg_of X G ax5) kx5 bx5
  have Fx6 := fun_mk (st := s__law_token) lx6 cx6 kx6
  have bx6 := Fx6.binds (ps := ["draws"]) fun _ _ _ _ _ _ us hl => match us, hl with | [_], _ => rfl
  have Cx6 : ∀ base : Heap, K.In base → base.Ns mainGlobals mg → (∀ p ∈ ([(Kcx10, Ktx10), (Kcx34, Ktx34)] : List (Addr × Addr)), LamX.TabB base mg p.1 p.2) → WP.Callee l.prog w K mg base CX0 3 "_law_token" ["draws"] (sp__law_token K mg) := fun base p1 p2 p3 => WP.Callee.mk' (ok__law_token Fx6 B (Cx1 base p1 p2 p3) (Cx2 base p1 p2 p3) (Cx3 base p1 p2 p3) (Cx5 base p1 p2 p3) (Cx4 base p1 p2 p3)) (PySem.W.mg_of X G ax6) kx6 bx6
  have Fx7 := fun_mk (st := s__law_quoted) lx7 cx7 kx7
  have bx7 := Fx7.binds (ps := ["string"]) fun _ _ _ _ _ _ us hl => match us, hl with | [_], _ => rfl
  have Cx7 : ∀ base : Heap, K.In base → base.Ns mainGlobals mg → (∀ p ∈ ([(Kcx10, Ktx10), (Kcx34, Ktx34)] : List (Addr × Addr)), LamX.TabB base mg p.1 p.2) → WP.Callee l.prog w K mg base CX0 1 "_law_quoted" ["string"] (sp__law_quoted K mg) := fun base p1 p2 p3 => WP.Callee.mk' (ok__law_quoted Fx7 B ) (PySem.W.mg_of X G ax7) kx7 bx7
  have Fx8 := fun_mk (st := s__law_build) lx8 cx8 kx8
  have bx8 := Fx8.binds (ps := ["draws", "count"]) fun _ _ _ _ _ _ us hl => match us, hl with | [_, _], _ => rfl
  have Cx8 : ∀ base : Heap, K.In base → base.Ns mainGlobals mg → (∀ p ∈ ([(Kcx10, Ktx10), (Kcx34, Ktx34)] : List (Addr × Addr)), LamX.TabB base mg p.1 p.2) → WP.Callee l.prog w K mg base CX0 4 "_law_build" ["draws", "count"] (sp__law_build K mg) := fun base p1 p2 p3 => WP.Callee.mk' (ok__law_build Fx8 B (Cx1 base p1 p2 p3) (Cx6 base p1 p2 p3) (Cx7 base p1 p2 p3)) (PySem.W.mg_of X G ax8) kx8 bx8
  have Fx9 := fun_mk (st := s_BadProgram___init__) lx9 cx9 kx9
  have bx9 := Fx9.binds (ps := ["self", "line", "reason"]) fun _ _ _ _ _ _ us hl => match us, hl with | [_, _, _], _ => rfl
  have CHx9 : ∀ base : Heap, K.In base → base.Ns mainGlobals mg → (∀ p ∈ ([(Kcx10, Ktx10), (Kcx34, Ktx34)] : List (Addr × Addr)), LamX.TabB base mg p.1 p.2) → WP.CalleeEH l.prog w K mg base CX0 1 "BadProgram" ["self", "line", "reason"] (sp_BadProgram___init__ K mg) := fun base p1 p2 p3 => WP.CalleeEH.mk' (okH_BadProgram___init__ Fx9 B ) (PySem.W.mg_of X G on_BadProgram) ax9 tfx9 bx9
  have Cx9 : ∀ base : Heap, K.In base → base.Ns mainGlobals mg → (∀ p ∈ ([(Kcx10, Ktx10), (Kcx34, Ktx34)] : List (Addr × Addr)), LamX.TabB base mg p.1 p.2) → WP.CalleeE l.prog w K mg base CX0 1 "BadProgram" ["self", "line", "reason"] (sp_BadProgram___init__ K mg) := fun base p1 p2 p3 => WP.CalleeE.mk' (ok_BadProgram___init__ Fx9 B ) (PySem.W.mg_of X G on_BadProgram) ax9 tfx9 bx9
  have Fx10 := fun_mk (st := s_is_printable) lx10 cx10 kx10
  have FCx10 := WP.funC_mk (st := s_is_printable) (y := "is_printable") lx10 cx10 tbx10
  have bx10 := Fx10.binds (ps := ["value"]) fun _ _ _ _ _ _ us hl => match us, hl with | [_], _ => rfl
  have Cx10 : ∀ base : Heap, K.In base → base.Ns mainGlobals mg → (∀ p ∈ ([(Kcx10, Ktx10), (Kcx34, Ktx34)] : List (Addr × Addr)), LamX.TabB base mg p.1 p.2) → WP.Callee l.prog w K mg base CX0 1 "is_printable" ["value"] (sp_is_printable K mg) := fun base p1 p2 p3 => WP.Callee.mk' (ok_is_printable FCx10 (WP.tabB_of (p3 (Kcx10, Ktx10) (.head _)) tbx10) B ) (PySem.W.mg_of X G ax10) kx10 bx10
  have Fx11 := fun_mk (st := s__end_of_string) lx11 cx11 kx11
  have bx11 := Fx11.binds (ps := ["row", "line", "start"]) fun _ _ _ _ _ _ us hl => match us, hl with | [_, _, _], _ => rfl
  have Cx11 : ∀ base : Heap, K.In base → base.Ns mainGlobals mg → (∀ p ∈ ([(Kcx10, Ktx10), (Kcx34, Ktx34)] : List (Addr × Addr)), LamX.TabB base mg p.1 p.2) → WP.Callee l.prog w K mg base (L2.CX l.prog w) 3 "_end_of_string" ["row", "line", "start"] (sp__end_of_string K mg) := fun base p1 p2 p3 => WP.Callee.mk' (ok__end_of_string Fx11 B (Cx9 base p1 p2 p3)) (PySem.W.mg_of X G ax11) kx11 bx11
  have Fx12 := fun_mk (st := s__end_of_word) lx12 cx12 kx12
  have bx12 := Fx12.binds (ps := ["row", "line", "start"]) fun _ _ _ _ _ _ us hl => match us, hl with | [_, _, _], _ => rfl
  have Cx12 : ∀ base : Heap, K.In base → base.Ns mainGlobals mg → (∀ p ∈ ([(Kcx10, Ktx10), (Kcx34, Ktx34)] : List (Addr × Addr)), LamX.TabB base mg p.1 p.2) → WP.Callee l.prog w K mg base (L2.CX l.prog w) 3 "_end_of_word" ["row", "line", "start"] (sp__end_of_word K mg) := fun base p1 p2 p3 => WP.Callee.mk' (ok__end_of_word Fx12 B (Cx9 base p1 p2 p3)) (PySem.W.mg_of X G ax12) kx12 bx12
  have Fx13 := fun_mk (st := s__tokens_of_line) lx13 cx13 kx13
  have bx13 := Fx13.binds (ps := ["row", "line"]) fun _ _ _ _ _ _ us hl => match us, hl with | [_, _], _ => rfl
  have Cx13 : ∀ base : Heap, K.In base → base.Ns mainGlobals mg → (∀ p ∈ ([(Kcx10, Ktx10), (Kcx34, Ktx34)] : List (Addr × Addr)), LamX.TabB base mg p.1 p.2) → WP.Callee l.prog w K mg base (L2.CX l.prog w) 4 "_tokens_of_line" ["row", "line"] (sp__tokens_of_line K mg) := fun base p1 p2 p3 => WP.Callee.mk' (ok__tokens_of_line Fx13 B (Cx11 base p1 p2 p3) (Cx12 base p1 p2 p3)) (PySem.W.mg_of X G ax13) kx13 bx13
  have Fx14 := fun_mk (st := s_tokens) lx14 cx14 kx14
  have bx14 := Fx14.binds (ps := ["text"]) fun _ _ _ _ _ _ us hl => match us, hl with | [_], _ => rfl
  have Cx14 : ∀ base : Heap, K.In base → base.Ns mainGlobals mg → (∀ p ∈ ([(Kcx10, Ktx10), (Kcx34, Ktx34)] : List (Addr × Addr)), LamX.TabB base mg p.1 p.2) → WP.Callee l.prog w K mg base (L2.CX l.prog w) 5 "tokens" ["text"] (sp_tokens K mg) := fun base p1 p2 p3 => WP.Callee.mk' (ok_tokens Fx14 B (Cx9 base p1 p2 p3) (Cx10 base p1 p2 p3) (Cx13 base p1 p2 p3)) (PySem.W.mg_of X G ax14) kx14 bx14
  have Fx15 := fun_mk (st := s_Cursor___init__) lx15 cx15 kx15
  have bx15 := Fx15.binds (ps := ["self", "text"]) fun _ _ _ _ _ _ us hl => match us, hl with | [_, _], _ => rfl
  have Cx15 : ∀ base : Heap, K.In base → base.Ns mainGlobals mg → (∀ p ∈ ([(Kcx10, Ktx10), (Kcx34, Ktx34)] : List (Addr × Addr)), LamX.TabB base mg p.1 p.2) → WP.CalleeI l.prog w K mg base (L2.CX l.prog w) 6 "Cursor" ["self", "text"] (sp_Cursor___init__ K mg) := fun base p1 p2 p3 => WP.CalleeI.mk' (ok_Cursor___init__ Fx15 B (Cx14 base p1 p2 p3)) (PySem.W.mg_of X G on_Cursor) ⟨om_Cursor, ax15, ix15, ok_Cursor⟩ bx15
  have Fx16 := fun_mk (st := s__law_same) lx16 cx16 kx16
  have bx16 := Fx16.binds (ps := ["actual", "expected"]) fun _ _ _ _ _ _ us hl => match us, hl with | [_, _], _ => rfl
  have Cx16_0 : ∀ base : Heap, K.In base → base.Ns mainGlobals mg → (∀ p ∈ ([(Kcx10, Ktx10), (Kcx34, Ktx34)] : List (Addr × Addr)), LamX.TabB base mg p.1 p.2) → WP.Callee l.prog w K mg base CX0 0 "_law_same" ["actual", "expected"] (sp__law_same K mg 0) := fun base p1 p2 p3 => WP.Callee.mk' ⟨fun _ _ _ _ h => (h : False).elim, fun _ _ _ _ _ _ _ _ _ _ _ _ _ h => (h : False).elim⟩ (PySem.W.mg_of X G ax16) kx16 bx16
  have Cx16_1 : ∀ base : Heap, K.In base → base.Ns mainGlobals mg → (∀ p ∈ ([(Kcx10, Ktx10), (Kcx34, Ktx34)] : List (Addr × Addr)), LamX.TabB base mg p.1 p.2) → WP.Callee l.prog w K mg base CX0 1 "_law_same" ["actual", "expected"] (sp__law_same K mg 1) := fun base p1 p2 p3 => WP.Callee.mk' (ok__law_same (nn := 0) Fx16 B  (Cx16_0 base p1 p2 p3)) (PySem.W.mg_of X G ax16) kx16 bx16
  have Cx16_2 : ∀ base : Heap, K.In base → base.Ns mainGlobals mg → (∀ p ∈ ([(Kcx10, Ktx10), (Kcx34, Ktx34)] : List (Addr × Addr)), LamX.TabB base mg p.1 p.2) → WP.Callee l.prog w K mg base CX0 2 "_law_same" ["actual", "expected"] (sp__law_same K mg 2) := fun base p1 p2 p3 => WP.Callee.mk' (ok__law_same (nn := 1) Fx16 B  (Cx16_1 base p1 p2 p3)) (PySem.W.mg_of X G ax16) kx16 bx16
  have Cx16_3 : ∀ base : Heap, K.In base → base.Ns mainGlobals mg → (∀ p ∈ ([(Kcx10, Ktx10), (Kcx34, Ktx34)] : List (Addr × Addr)), LamX.TabB base mg p.1 p.2) → WP.Callee l.prog w K mg base CX0 3 "_law_same" ["actual", "expected"] (sp__law_same K mg 3) := fun base p1 p2 p3 => WP.Callee.mk' (ok__law_same (nn := 2) Fx16 B  (Cx16_2 base p1 p2 p3)) (PySem.W.mg_of X G ax16) kx16 bx16
  have Cx16 := Cx16_3
  have Fx17 := fun_mk (st := s__law_is_name) lx17 cx17 kx17
  have bx17 := Fx17.binds (ps := ["word"]) fun _ _ _ _ _ _ us hl => match us, hl with | [_], _ => rfl
  have Cx17 : ∀ base : Heap, K.In base → base.Ns mainGlobals mg → (∀ p ∈ ([(Kcx10, Ktx10), (Kcx34, Ktx34)] : List (Addr × Addr)), LamX.TabB base mg p.1 p.2) → WP.Callee l.prog w K mg base CX0 2 "_law_is_name" ["word"] (sp__law_is_name K mg) := fun base p1 p2 p3 => WP.Callee.mk' (ok__law_is_name Fx17 B (Cx4 base p1 p2 p3)) (PySem.W.mg_of X G ax17) kx17 bx17
  have Fx18 := fun_mk (st := s__law_are_figures) lx18 cx18 kx18
  have bx18 := Fx18.binds (ps := ["word"]) fun _ _ _ _ _ _ us hl => match us, hl with | [_], _ => rfl
  have Cx18 : ∀ base : Heap, K.In base → base.Ns mainGlobals mg → (∀ p ∈ ([(Kcx10, Ktx10), (Kcx34, Ktx34)] : List (Addr × Addr)), LamX.TabB base mg p.1 p.2) → WP.Callee l.prog w K mg base CX0 1 "_law_are_figures" ["word"] (sp__law_are_figures K mg) := fun base p1 p2 p3 => WP.Callee.mk' (ok__law_are_figures Fx18 B ) (PySem.W.mg_of X G ax18) kx18 bx18
  have Fx19 := fun_mk (st := s__law_deed) lx19 cx19 kx19
  have bx19 := Fx19.binds (ps := ["draws", "rows", "at"]) fun _ _ _ _ _ _ us hl => match us, hl with | [_, _, _], _ => rfl
  have Cx19 : ∀ base : Heap, K.In base → base.Ns mainGlobals mg → (∀ p ∈ ([(Kcx10, Ktx10), (Kcx34, Ktx34)] : List (Addr × Addr)), LamX.TabB base mg p.1 p.2) → WP.Callee l.prog w K mg base CX0 3 "_law_deed" ["draws", "rows", "at"] (sp__law_deed K mg) := fun base p1 p2 p3 => WP.Callee.mk' (ok__law_deed Fx19 B (Cx1 base p1 p2 p3) (Cx17 base p1 p2 p3) (Cx5 base p1 p2 p3) (Cx18 base p1 p2 p3)) (PySem.W.mg_of X G ax19) kx19 bx19
  have Fx20 := fun_mk (st := s__law_row) lx20 cx20 kx20
  have bx20 := Fx20.binds (ps := ["rows", "at"]) fun _ _ _ _ _ _ us hl => match us, hl with | [_, _], _ => rfl
  have Cx20 : ∀ base : Heap, K.In base → base.Ns mainGlobals mg → (∀ p ∈ ([(Kcx10, Ktx10), (Kcx34, Ktx34)] : List (Addr × Addr)), LamX.TabB base mg p.1 p.2) → WP.Callee l.prog w K mg base CX0 1 "_law_row" ["rows", "at"] (sp__law_row K mg) := fun base p1 p2 p3 => WP.Callee.mk' (ok__law_row Fx20 B ) (PySem.W.mg_of X G ax20) kx20 bx20
  have Fx21 := fun_mk (st := s__law_refused) lx21 cx21 kx21
  have bx21 := Fx21.binds (ps := ["rows", "at", "reason"]) fun _ _ _ _ _ _ us hl => match us, hl with | [_, _, _], _ => rfl
  have Cx21 : ∀ base : Heap, K.In base → base.Ns mainGlobals mg → (∀ p ∈ ([(Kcx10, Ktx10), (Kcx34, Ktx34)] : List (Addr × Addr)), LamX.TabB base mg p.1 p.2) → WP.Callee l.prog w K mg base CX0 2 "_law_refused" ["rows", "at", "reason"] (sp__law_refused K mg) := fun base p1 p2 p3 => WP.Callee.mk' (ok__law_refused Fx21 B (Cx20 base p1 p2 p3)) (PySem.W.mg_of X G ax21) kx21 bx21
  have Fx22 := fun_mk (st := s__law_integer) lx22 cx22 kx22
  have bx22 := Fx22.binds (ps := ["rows", "at", "peek", "least", "greatest"]) fun _ _ _ _ _ _ us hl => match us, hl with | [_, _, _, _, _], _ => rfl
  have Cx22 : ∀ base : Heap, K.In base → base.Ns mainGlobals mg → (∀ p ∈ ([(Kcx10, Ktx10), (Kcx34, Ktx34)] : List (Addr × Addr)), LamX.TabB base mg p.1 p.2) → WP.Callee l.prog w K mg base CX0 3 "_law_integer" ["rows", "at", "peek", "least", "greatest"] (sp__law_integer K mg) := fun base p1 p2 p3 => WP.Callee.mk' (ok__law_integer Fx22 B (Cx18 base p1 p2 p3) (Cx21 base p1 p2 p3)) (PySem.W.mg_of X G ax22) kx22 bx22
  have Fx23 := fun_mk (st := s__law_parse) lx23 cx23 kx23
  have bx23 := Fx23.binds (ps := ["word"]) fun _ _ _ _ _ _ us hl => match us, hl with | [_], _ => rfl
  have Cx23 : ∀ base : Heap, K.In base → base.Ns mainGlobals mg → (∀ p ∈ ([(Kcx10, Ktx10), (Kcx34, Ktx34)] : List (Addr × Addr)), LamX.TabB base mg p.1 p.2) → WP.Callee l.prog w K mg base CX0 2 "_law_parse" ["word"] (sp__law_parse K mg) := fun base p1 p2 p3 => WP.Callee.mk' (ok__law_parse Fx23 B (Cx18 base p1 p2 p3)) (PySem.W.mg_of X G ax23) kx23 bx23
  have Fx24 := fun_mk (st := s__law_taken) lx24 cx24 kx24
  have bx24 := Fx24.binds (ps := ["rows", "at", "peek", "deed", "bound"]) fun _ _ _ _ _ _ us hl => match us, hl with | [_, _, _, _, _], _ => rfl
  have Cx24 : ∀ base : Heap, K.In base → base.Ns mainGlobals mg → (∀ p ∈ ([(Kcx10, Ktx10), (Kcx34, Ktx34)] : List (Addr × Addr)), LamX.TabB base mg p.1 p.2) → WP.Callee l.prog w K mg base CX0 4 "_law_taken" ["rows", "at", "peek", "deed", "bound"] (sp__law_taken K mg) := fun base p1 p2 p3 => WP.Callee.mk' (ok__law_taken Fx24 B (Cx21 base p1 p2 p3) (Cx17 base p1 p2 p3) (Cx22 base p1 p2 p3) (Cx23 base p1 p2 p3)) (PySem.W.mg_of X G ax24) kx24 bx24
  have Fx25 := fun_mk (st := s__law_due) lx25 cx25 kx25
  have bx25 := Fx25.binds (ps := ["rows", "at", "deed", "words", "bound"]) fun _ _ _ _ _ _ us hl => match us, hl with | [_, _, _, _, _], _ => rfl
  have Cx25 : ∀ base : Heap, K.In base → base.Ns mainGlobals mg → (∀ p ∈ ([(Kcx10, Ktx10), (Kcx34, Ktx34)] : List (Addr × Addr)), LamX.TabB base mg p.1 p.2) → WP.Callee l.prog w K mg base CX0 5 "_law_due" ["rows", "at", "deed", "words", "bound"] (sp__law_due K mg) := fun base p1 p2 p3 => WP.Callee.mk' (ok__law_due Fx25 B (Cx24 base p1 p2 p3) (Cx20 base p1 p2 p3) (Cx21 base p1 p2 p3)) (PySem.W.mg_of X G ax25) kx25 bx25
  have Fx26 := fun_mk (st := s_Cursor_is_done) lx26 cx26 kx26
  have bx26 := Fx26.binds (ps := ["self"]) fun _ _ _ _ _ _ us hl => match us, hl with | [_], _ => rfl
  have Cx26 : ∀ base : Heap, K.In base → base.Ns mainGlobals mg → (∀ p ∈ ([(Kcx10, Ktx10), (Kcx34, Ktx34)] : List (Addr × Addr)), LamX.TabB base mg p.1 p.2) → WP.CalleeM l.prog w K mg base CX0 1 "Cursor" "is_done" ["self"] (sp_Cursor_is_done K mg) := fun base p1 p2 p3 => WP.CalleeM.mk' (ok_Cursor_is_done Fx26 B ) (PySem.W.mg_of X G on_Cursor) ⟨ax26, ix26, kx26⟩ bx26
  have Fx27 := fun_mk (st := s_Cursor_row) lx27 cx27 kx27
  have bx27 := Fx27.binds (ps := ["self"]) fun _ _ _ _ _ _ us hl => match us, hl with | [_], _ => rfl
  have Cx27 : ∀ base : Heap, K.In base → base.Ns mainGlobals mg → (∀ p ∈ ([(Kcx10, Ktx10), (Kcx34, Ktx34)] : List (Addr × Addr)), LamX.TabB base mg p.1 p.2) → WP.CalleeP l.prog w K mg base CX0 1 "Cursor" "row" ["self"] (sp_Cursor_row K mg) := fun base p1 p2 p3 => WP.CalleeP.mk' (ok_Cursor_row Fx27 B ) (PySem.W.mg_of X G on_Cursor) ⟨ax27, pgx27, ptx27, _, pcx27⟩ bx27
  have CHx27 : ∀ base : Heap, K.In base → base.Ns mainGlobals mg → (∀ p ∈ ([(Kcx10, Ktx10), (Kcx34, Ktx34)] : List (Addr × Addr)), LamX.TabB base mg p.1 p.2) → WP.CalleePH l.prog w K mg base CX0 1 "Cursor" "row" ["self"] (sp_Cursor_row K mg) := fun base p1 p2 p3 => WP.CalleePH.mk' (okH_Cursor_row Fx27 B ) (PySem.W.mg_of X G on_Cursor) ⟨ax27, pgx27, ptx27, _, pcx27⟩ bx27
  have Fx28 := fun_mk (st := s_Cursor__next_of_kind) lx28 cx28 kx28
  have bx28 := Fx28.binds (ps := ["self", "kind"]) fun _ _ _ _ _ _ us hl => match us, hl with | [_, _], _ => rfl
  have Cx28 : ∀ base : Heap, K.In base → base.Ns mainGlobals mg → (∀ p ∈ ([(Kcx10, Ktx10), (Kcx34, Ktx34)] : List (Addr × Addr)), LamX.TabB base mg p.1 p.2) → WP.CalleeM l.prog w K mg base CX0 2 "Cursor" "_next_of_kind" ["self", "kind"] (sp_Cursor__next_of_kind K mg) := fun base p1 p2 p3 => WP.CalleeM.mk' (ok_Cursor__next_of_kind Fx28 B (Cx26 base p1 p2 p3)) (PySem.W.mg_of X G on_Cursor) ⟨ax28, ix28, kx28⟩ bx28
  have Fx29 := fun_mk (st := s_Cursor_peek) lx29 cx29 kx29
  have bx29 := Fx29.binds (ps := ["self"]) fun _ _ _ _ _ _ us hl => match us, hl with | [_], _ => rfl
  have Cx29 : ∀ base : Heap, K.In base → base.Ns mainGlobals mg → (∀ p ∈ ([(Kcx10, Ktx10), (Kcx34, Ktx34)] : List (Addr × Addr)), LamX.TabB base mg p.1 p.2) → WP.CalleeM l.prog w K mg base CX0 3 "Cursor" "peek" ["self"] (sp_Cursor_peek K mg) := fun base p1 p2 p3 => WP.CalleeM.mk' (ok_Cursor_peek Fx29 B (Cx28 base p1 p2 p3)) (PySem.W.mg_of X G on_Cursor) ⟨ax29, ix29, kx29⟩ bx29
  have Fx30 := fun_mk (st := s_Cursor_accept) lx30 cx30 kx30
  have bx30 := Fx30.binds (ps := ["self", "word"]) fun _ _ _ _ _ _ us hl => match us, hl with | [_, _], _ => rfl
  have Cx30 : ∀ base : Heap, K.In base → base.Ns mainGlobals mg → (∀ p ∈ ([(Kcx10, Ktx10), (Kcx34, Ktx34)] : List (Addr × Addr)), LamX.TabB base mg p.1 p.2) → WP.CalleeM l.prog w K mg base CX0 4 "Cursor" "accept" ["self", "word"] (sp_Cursor_accept K mg) := fun base p1 p2 p3 => WP.CalleeM.mk' (ok_Cursor_accept Fx30 B (Cx29 base p1 p2 p3)) (PySem.W.mg_of X G on_Cursor) ⟨ax30, ix30, kx30⟩ bx30
  have Fx31 := fun_mk (st := s_Cursor_row_behind) lx31 cx31 kx31
  have bx31 := Fx31.binds (ps := ["self"]) fun _ _ _ _ _ _ us hl => match us, hl with | [_], _ => rfl
  have Cx31 : ∀ base : Heap, K.In base → base.Ns mainGlobals mg → (∀ p ∈ ([(Kcx10, Ktx10), (Kcx34, Ktx34)] : List (Addr × Addr)), LamX.TabB base mg p.1 p.2) → WP.CalleeP l.prog w K mg base CX0 1 "Cursor" "row_behind" ["self"] (sp_Cursor_row_behind K mg) := fun base p1 p2 p3 => WP.CalleeP.mk' (ok_Cursor_row_behind Fx31 B ) (PySem.W.mg_of X G on_Cursor) ⟨ax31, pgx31, ptx31, _, pcx31⟩ bx31
  have Fx32 := fun_mk (st := s_Cursor__refuse) lx32 cx32 kx32
  have bx32 := Fx32.binds (ps := ["self", "reason"]) fun _ _ _ _ _ _ us hl => match us, hl with | [_, _], _ => rfl
  have Cx32 : ∀ base : Heap, K.In base → base.Ns mainGlobals mg → (∀ p ∈ ([(Kcx10, Ktx10), (Kcx34, Ktx34)] : List (Addr × Addr)), LamX.TabB base mg p.1 p.2) → WP.CalleeM l.prog w K mg base (L2.CX l.prog w) 3 "Cursor" "_refuse" ["self", "reason"] (sp_Cursor__refuse K mg) := fun base p1 p2 p3 => WP.CalleeM.mk' (ok_Cursor__refuse Fx32 B (Cx9 base p1 p2 p3) (Cx27 base p1 p2 p3) (Cx26 base p1 p2 p3)) (PySem.W.mg_of X G on_Cursor) ⟨ax32, ix32, kx32⟩ bx32
  have Fx33 := fun_mk (st := s_Cursor_expect) lx33 cx33 kx33
  have Cx33 : ∀ base : Heap, K.In base → base.Ns mainGlobals mg → (∀ p ∈ ([(Kcx10, Ktx10), (Kcx34, Ktx34)] : List (Addr × Addr)), LamX.TabB base mg p.1 p.2) → WP.CalleeMS l.prog w K mg base (L2.CX l.prog w) 5 "Cursor" "expect" ["self", "words"] (sp_Cursor_expect K mg) := fun base p1 p2 p3 => WP.CalleeMS.mk' (ok_Cursor_expect Fx33 B (Cx30 base p1 p2 p3) (Cx32 base p1 p2 p3)) (PySem.W.mg_of X G on_Cursor) ⟨ax33, ix33, kx33⟩
  have Fx34 := fun_mk (st := s__has_only) lx34 cx34 kx34
  have FCx34 := WP.funC_mk (st := s__has_only) (y := "_has_only") lx34 cx34 tbx34
  have bx34 := Fx34.binds (ps := ["text", "characters"]) fun _ _ _ _ _ _ us hl => match us, hl with | [_, _], _ => rfl
  have Cx34 : ∀ base : Heap, K.In base → base.Ns mainGlobals mg → (∀ p ∈ ([(Kcx10, Ktx10), (Kcx34, Ktx34)] : List (Addr × Addr)), LamX.TabB base mg p.1 p.2) → WP.Callee l.prog w K mg base CX0 1 "_has_only" ["text", "characters"] (sp__has_only K mg) := fun base p1 p2 p3 => WP.Callee.mk' (ok__has_only FCx34 (WP.tabB_of (p3 (Kcx34, Ktx34) (.tail _ (.head _))) tbx34) B ) (PySem.W.mg_of X G ax34) kx34 bx34
  have Fx35 := fun_mk (st := s_is_name) lx35 cx35 kx35
  have bx35 := Fx35.binds (ps := ["value"]) fun _ _ _ _ _ _ us hl => match us, hl with | [_], _ => rfl
  have Cx35 : ∀ base : Heap, K.In base → base.Ns mainGlobals mg → (∀ p ∈ ([(Kcx10, Ktx10), (Kcx34, Ktx34)] : List (Addr × Addr)), LamX.TabB base mg p.1 p.2) → WP.Callee l.prog w K mg base CX0 2 "is_name" ["value"] (sp_is_name K mg) := fun base p1 p2 p3 => WP.Callee.mk' (ok_is_name Fx35 B (Cx34 base p1 p2 p3)) (PySem.W.mg_of X G ax35) kx35 bx35
  have Fx36 := fun_mk (st := s_Cursor_take_name) lx36 cx36 kx36
  have bx36 := Fx36.binds (ps := ["self"]) fun _ _ _ _ _ _ us hl => match us, hl with | [_], _ => rfl
  have Cx36 : ∀ base : Heap, K.In base → base.Ns mainGlobals mg → (∀ p ∈ ([(Kcx10, Ktx10), (Kcx34, Ktx34)] : List (Addr × Addr)), LamX.TabB base mg p.1 p.2) → WP.CalleeM l.prog w K mg base (L2.CX l.prog w) 4 "Cursor" "take_name" ["self"] (sp_Cursor_take_name K mg) := fun base p1 p2 p3 => WP.CalleeM.mk' (ok_Cursor_take_name Fx36 B (Cx29 base p1 p2 p3) (Cx35 base p1 p2 p3) (Cx32 base p1 p2 p3)) (PySem.W.mg_of X G on_Cursor) ⟨ax36, ix36, kx36⟩ bx36
  have Fx37 := fun_mk (st := s_are_figures) lx37 cx37 kx37
  have bx37 := Fx37.binds (ps := ["value"]) fun _ _ _ _ _ _ us hl => match us, hl with | [_], _ => rfl
  have Cx37 : ∀ base : Heap, K.In base → base.Ns mainGlobals mg → (∀ p ∈ ([(Kcx10, Ktx10), (Kcx34, Ktx34)] : List (Addr × Addr)), LamX.TabB base mg p.1 p.2) → WP.Callee l.prog w K mg base CX0 2 "are_figures" ["value"] (sp_are_figures K mg) := fun base p1 p2 p3 => WP.Callee.mk' (ok_are_figures Fx37 B (Cx34 base p1 p2 p3)) (PySem.W.mg_of X G ax37) kx37 bx37
  have Fx38 := fun_mk (st := s__is_integer_word) lx38 cx38 kx38
  have bx38 := Fx38.binds (ps := ["figures"]) fun _ _ _ _ _ _ us hl => match us, hl with | [_], _ => rfl
  have Cx38 : ∀ base : Heap, K.In base → base.Ns mainGlobals mg → (∀ p ∈ ([(Kcx10, Ktx10), (Kcx34, Ktx34)] : List (Addr × Addr)), LamX.TabB base mg p.1 p.2) → WP.Callee l.prog w K mg base CX0 1 "_is_integer_word" ["figures"] (sp__is_integer_word K mg) := fun base p1 p2 p3 => WP.Callee.mk' (ok__is_integer_word Fx38 B ) (PySem.W.mg_of X G ax38) kx38 bx38
  have Fx39 := fun_mk (st := s_Cursor_take_integer) lx39 cx39 kx39
  have FDx39_greatest : FunD K "take_integer" "Cursor.take_integer" (defArgs s_Cursor_take_integer) (defBody s_Cursor_take_integer) (defScope s_Cursor_take_integer) [] [("least", .int 0)] fx39 _ := ⟨⟨_, _, _, _, _, _, _, _, _, _, rfl, lx39, cx39, .inl ⟨rfl, rfl⟩, .inr ⟨_, rfl, (List.forall_mem_cons.mpr ⟨⟨_, kdx39_0, _, rfl⟩, (fun _ h => nomatch h)⟩)⟩⟩, kx39⟩
  obtain ⟨_, KBx39_greatest⟩ := FDx39_greatest.kbinds0 (ps := ["self", "least", "greatest"]) 1 ["greatest"] [("least", .int 0)] (fun us mv ws => us ++ (mv ++ ws)) (by decide) (by decide) (fun a b c => a.append (b.append c)) fun _ _ _ _ _ _ us mv ws h1 h2 h3 => match us, mv, ws, h1, h2, h3 with | [_], [_], [_], _, _, _ => ⟨_, _, _, _, _, _, rfl, rfl, rfl⟩
  have Cx39_greatest : ∀ base : Heap, K.In base → base.Ns mainGlobals mg → (∀ p ∈ ([(Kcx10, Ktx10), (Kcx34, Ktx34)] : List (Addr × Addr)), LamX.TabB base mg p.1 p.2) → WP.CalleeMK l.prog w K mg base (L2.CX l.prog w) 4 "Cursor" "take_integer" ["self", "least", "greatest"] ["greatest"] (fun vs zs => vs ++ ([V.int 0] ++ zs)) (sp_Cursor_take_integer K mg) := fun base p1 p2 p3 => WP.CalleeMK.mk' (ok_Cursor_take_integer Fx39 B (Cx29 base p1 p2 p3) (Cx37 base p1 p2 p3) (Cx32 base p1 p2 p3) (Cx38 base p1 p2 p3)) (PySem.W.mg_of X G on_Cursor) ⟨ax39, ix39, kx39⟩ KBx39_greatest
  have FDx39_least_greatest : FunD K "take_integer" "Cursor.take_integer" (defArgs s_Cursor_take_integer) (defBody s_Cursor_take_integer) (defScope s_Cursor_take_integer) [] [("least", .int 0)] fx39 _ := ⟨⟨_, _, _, _, _, _, _, _, _, _, rfl, lx39, cx39, .inl ⟨rfl, rfl⟩, .inr ⟨_, rfl, (List.forall_mem_cons.mpr ⟨⟨_, kdx39_0, _, rfl⟩, (fun _ h => nomatch h)⟩)⟩⟩, kx39⟩
  obtain ⟨_, KBx39_least_greatest⟩ := FDx39_least_greatest.kbinds0 (ps := ["self", "least", "greatest"]) 1 ["least", "greatest"] [] (fun us mv ws => us ++ (mv ++ ws)) (by decide) (by decide) (fun a b c => a.append (b.append c)) fun _ _ _ _ _ _ us mv ws h1 h2 h3 => match us, mv, ws, h1, h2, h3 with | [_], [], [_, _], _, _, _ => rfl
  have Cx39_least_greatest : ∀ base : Heap, K.In base → base.Ns mainGlobals mg → (∀ p ∈ ([(Kcx10, Ktx10), (Kcx34, Ktx34)] : List (Addr × Addr)), LamX.TabB base mg p.1 p.2) → WP.CalleeMK l.prog w K mg base (L2.CX l.prog w) 4 "Cursor" "take_integer" ["self", "least", "greatest"] ["least", "greatest"] (fun vs zs => vs ++ ([] ++ zs)) (sp_Cursor_take_integer K mg) := fun base p1 p2 p3 => WP.CalleeMK.mk' (ok_Cursor_take_integer Fx39 B (Cx29 base p1 p2 p3) (Cx37 base p1 p2 p3) (Cx32 base p1 p2 p3) (Cx38 base p1 p2 p3)) (PySem.W.mg_of X G on_Cursor) ⟨ax39, ix39, kx39⟩ KBx39_least_greatest
  have Fx40 := fun_mk (st := s_is_numeric) lx40 cx40 kx40
  have bx40 := Fx40.binds (ps := ["word"]) fun _ _ _ _ _ _ us hl => match us, hl with | [_], _ => rfl
  have Cx40 : ∀ base : Heap, K.In base → base.Ns mainGlobals mg → (∀ p ∈ ([(Kcx10, Ktx10), (Kcx34, Ktx34)] : List (Addr × Addr)), LamX.TabB base mg p.1 p.2) → WP.Callee l.prog w K mg base CX0 3 "is_numeric" ["word"] (sp_is_numeric K mg) := fun base p1 p2 p3 => WP.Callee.mk' (ok_is_numeric Fx40 B (Cx37 base p1 p2 p3)) (PySem.W.mg_of X G ax40) kx40 bx40
  have Fx41 := fun_mk (st := s_normal) lx41 cx41 kx41
  have bx41 := Fx41.binds (ps := ["units", "scale"]) fun _ _ _ _ _ _ us hl => match us, hl with | [_, _], _ => rfl
  have Cx41 : ∀ base : Heap, K.In base → base.Ns mainGlobals mg → (∀ p ∈ ([(Kcx10, Ktx10), (Kcx34, Ktx34)] : List (Addr × Addr)), LamX.TabB base mg p.1 p.2) → WP.Callee l.prog w K mg base CX0 1 "normal" ["units", "scale"] (sp_normal K mg) := fun base p1 p2 p3 => WP.Callee.mk' (ok_normal Fx41 B ) (PySem.W.mg_of X G ax41) kx41 bx41
  have Fx42 := fun_mk (st := s__is_whole) lx42 cx42 kx42
  have bx42 := Fx42.binds (ps := ["text"]) fun _ _ _ _ _ _ us hl => match us, hl with | [_], _ => rfl
  have Cx42 : ∀ base : Heap, K.In base → base.Ns mainGlobals mg → (∀ p ∈ ([(Kcx10, Ktx10), (Kcx34, Ktx34)] : List (Addr × Addr)), LamX.TabB base mg p.1 p.2) → WP.Callee l.prog w K mg base CX0 3 "_is_whole" ["text"] (sp__is_whole K mg) := fun base p1 p2 p3 => WP.Callee.mk' (ok__is_whole Fx42 B (Cx37 base p1 p2 p3)) (PySem.W.mg_of X G ax42) kx42 bx42
  have Fx43 := fun_mk (st := s_parse) lx43 cx43 kx43
  have bx43 := Fx43.binds (ps := ["text"]) fun _ _ _ _ _ _ us hl => match us, hl with | [_], _ => rfl
  have Cx43 : ∀ base : Heap, K.In base → base.Ns mainGlobals mg → (∀ p ∈ ([(Kcx10, Ktx10), (Kcx34, Ktx34)] : List (Addr × Addr)), LamX.TabB base mg p.1 p.2) → WP.Callee l.prog w K mg base (L2N.CX l.prog w) 4 "parse" ["text"] (sp_parse K mg) := fun base p1 p2 p3 => WP.Callee.mk' (ok_parse Fx43 B (Cx41 base p1 p2 p3) (Cx42 base p1 p2 p3) (Cx37 base p1 p2 p3)) (PySem.W.mg_of X G ax43) kx43 bx43
  have Fx44 := fun_mk (st := s_Cursor_take_decimal) lx44 cx44 kx44
  have bx44 := Fx44.binds (ps := ["self"]) fun _ _ _ _ _ _ us hl => match us, hl with | [_], _ => rfl
  have Cx44 : ∀ base : Heap, K.In base → base.Ns mainGlobals mg → (∀ p ∈ ([(Kcx10, Ktx10), (Kcx34, Ktx34)] : List (Addr × Addr)), LamX.TabB base mg p.1 p.2) → WP.CalleeM l.prog w K mg base (L2.CX l.prog w) 5 "Cursor" "take_decimal" ["self"] (sp_Cursor_take_decimal K mg) := fun base p1 p2 p3 => WP.CalleeM.mk' (ok_Cursor_take_decimal Fx44 B (Cx29 base p1 p2 p3) (Cx40 base p1 p2 p3) (Cx32 base p1 p2 p3) (Cx43 base p1 p2 p3) (Cx9 base p1 p2 p3) (Cx27 base p1 p2 p3) (CHx9 base p1 p2 p3) (CHx27 base p1 p2 p3)) (PySem.W.mg_of X G on_Cursor) ⟨ax44, ix44, kx44⟩ bx44
  have Fx45 := fun_mk (st := s_Cursor_take_string) lx45 cx45 kx45
  have bx45 := Fx45.binds (ps := ["self"]) fun _ _ _ _ _ _ us hl => match us, hl with | [_], _ => rfl
  have Cx45 : ∀ base : Heap, K.In base → base.Ns mainGlobals mg → (∀ p ∈ ([(Kcx10, Ktx10), (Kcx34, Ktx34)] : List (Addr × Addr)), LamX.TabB base mg p.1 p.2) → WP.CalleeM l.prog w K mg base (L2.CX l.prog w) 4 "Cursor" "take_string" ["self"] (sp_Cursor_take_string K mg) := fun base p1 p2 p3 => WP.CalleeM.mk' (ok_Cursor_take_string Fx45 B (Cx28 base p1 p2 p3) (Cx29 base p1 p2 p3) (Cx32 base p1 p2 p3)) (PySem.W.mg_of X G on_Cursor) ⟨ax45, ix45, kx45⟩ bx45
  have Fx46 := fun_mk (st := s__law_do) lx46 cx46 kx46
  have bx46 := Fx46.binds (ps := ["cursor", "deed", "words", "bound"]) fun _ _ _ _ _ _ us hl => match us, hl with | [_, _, _, _], _ => rfl
  have Cx46 : ∀ base : Heap, K.In base → base.Ns mainGlobals mg → (∀ p ∈ ([(Kcx10, Ktx10), (Kcx34, Ktx34)] : List (Addr × Addr)), LamX.TabB base mg p.1 p.2) → WP.Callee l.prog w K mg base CX0 6 "_law_do" ["cursor", "deed", "words", "bound"] (sp__law_do K mg) := fun base p1 p2 p3 => WP.Callee.mk' (ok__law_do Fx46 B (Cx30 base p1 p2 p3) (Cx29 base p1 p2 p3) (Cx26 base p1 p2 p3) (Cx27 base p1 p2 p3) (Cx31 base p1 p2 p3) (Cx33 base p1 p2 p3) (Cx36 base p1 p2 p3) (Cx39_greatest base p1 p2 p3) (Cx39_least_greatest base p1 p2 p3) (Cx44 base p1 p2 p3) (Cx45 base p1 p2 p3)) (PySem.W.mg_of X G ax46) kx46 bx46
  have Fx47 := fun_mk (st := s_law) lx47 cx47 kx47
  exact ⟨PySem.W.fnOf "law" "law" (defArgs s_law) (defBody s_law) (defScope s_law) .none kVx47 dcx47 pmx47 anx47 cdx47 ctx47, [(Kcx10, Ktx10), (Kcx34, Ktx34)], sp_law K, (List.forall_mem_cons.mpr ⟨hdx10.2, (List.forall_mem_cons.mpr ⟨hdx34.2, (fun _ h => nomatch h)⟩)⟩), (List.forall_mem_cons.mpr ⟨nkx10, (List.forall_mem_cons.mpr ⟨nkx34, (fun _ h => nomatch h)⟩)⟩), (List.forall_mem_cons.mpr ⟨hdx10.1, (List.forall_mem_cons.mpr ⟨hdx34.1, (fun _ h => nomatch h)⟩)⟩), fun s v => .of_eq rfl, fun H a ns hl _ hT hS => ⟨a, ns, rfl, hS, hl, ⟨#[], by rw [WP.tbl_of tbx10]; exact hT (Kcx10, Ktx10) (.head _), True.intro⟩, ⟨#[], by rw [WP.tbl_of tbx34]; exact hT (Kcx34, Ktx34) (.tail _ (.head _)), True.intro⟩, fun _ => rfl⟩, fun base p1 p2 p3 => ok_law Fx47 B (Cx0 base p1 p2 p3) (Cx8 base p1 p2 p3) (Cx15 base p1 p2 p3) (Cx16 base p1 p2 p3) (Cx1 base p1 p2 p3) (Cx19 base p1 p2 p3) (Cx25 base p1 p2 p3) (Cx26 base p1 p2 p3) (Cx27 base p1 p2 p3) (Cx20 base p1 p2 p3) (Cx46 base p1 p2 p3)⟩
end D
open PySem PySem.W PyProof.Rows
def PySem.W.Fast.tw8070438306145322776 : Unit := ()
def PySem.W.Fast.tw3086041963402409906 : Unit := ()
def PySem.W.Fast.tw11533941149178936055 : Unit := ()
def PySem.W.Fast.tw4114184457179661589 : Unit := ()
def PySem.W.Fast.tw12244409497721507707 : Unit := ()
def PySem.W.Fast.tw6169316553576150072 : Unit := ()
def PySem.W.Fast.tw6652049136960935695 : Unit := ()
def PySem.W.Fast.tw4799503038534895725 : Unit := ()
def PySem.W.Fast.tw1108932034845376660 : Unit := ()
def PySem.W.Fast.tw4977599287340796122 : Unit := ()
def PySem.W.Fast.tw6905483573552950619 : Unit := ()
def PySem.W.Fast.tw13055345430216019046 : Unit := ()
def PySem.W.Fast.tw11565242164769719578 : Unit := ()
def PySem.W.Fast.tw12524736243506584360 : Unit := ()
set_option maxRecDepth 100000 in
set_option maxHeartbeats 0 in
theorem PySem.Challenge.cw_cardwright_k31_cursor_holds : PySem.Challenge.rw_cardwright_k31_cursor.Holds := by
  w_on; o_law; k_head; (case hw => w_witness2)
  k_fill
  refine WP.walk_ofG (l := PySem.Challenge.rw_cardwright_k31_cursor) (n := 63) (k := 8) (x := "script") (CX := fun _ => L2.CX0) rfl (by decide) rfl ⟨rfl, by decide, by decide⟩ (fun w h Y => by first | exact PySem.W.kIn_of Y | exact PySem.W.km_in_of Y) ?F (fun _ _ _ _ _ z => z)
  case F =>
    intro w mg fa h Y KX G hmg hT
    refine' D.all_mk KX G hmg ?on_Cursor ?og_Cursor ?oh_Cursor ?oo_Cursor ?os_Cursor ?om_Cursor ?ok_Cursor ?ot_Cursor_0 ?ot_Cursor_1 ?on_BadProgram ?xo_BadProgram ?xx_BadProgram ?xc_BadProgram ?ot_BadProgram_0 ?ot_BadProgram_1 ?ax0 ?lx0 ?cx0 ?kx0 ?ax1 ?lx1 ?cx1 ?kx1 ?ax2 ?lx2 ?cx2 ?kx2 ?ax3 ?lx3 ?cx3 ?kx3 ?ax4 ?lx4 ?cx4 ?kx4 ?ax5 ?lx5 ?cx5 ?kx5 ?ax6 ?lx6 ?cx6 ?kx6 ?ax7 ?lx7 ?cx7 ?kx7 ?ax8 ?lx8 ?cx8 ?kx8 ?ax9 ?ix9 ?lx9 ?cx9 ?kx9 ?tfx9 ?ax10 ?tbx10 ?lx10 ?cx10 ?kx10 ?hdx10 ?nkx10 ?ax11 ?lx11 ?cx11 ?kx11 ?ax12 ?lx12 ?cx12 ?kx12 ?ax13 ?lx13 ?cx13 ?kx13 ?ax14 ?lx14 ?cx14 ?kx14 ?ax15 ?ix15 ?lx15 ?cx15 ?kx15 ?ax16 ?lx16 ?cx16 ?kx16 ?ax17 ?lx17 ?cx17 ?kx17 ?ax18 ?lx18 ?cx18 ?kx18 ?ax19 ?lx19 ?cx19 ?kx19 ?ax20 ?lx20 ?cx20 ?kx20 ?ax21 ?lx21 ?cx21 ?kx21 ?ax22 ?lx22 ?cx22 ?kx22 ?ax23 ?lx23 ?cx23 ?kx23 ?ax24 ?lx24 ?cx24 ?kx24 ?ax25 ?lx25 ?cx25 ?kx25 ?ax26 ?ix26 ?lx26 ?cx26 ?kx26 ?ax27 ?pgx27 ?ptx27 ?pcx27 ?lx27 ?cx27 ?kx27 ?ax28 ?ix28 ?lx28 ?cx28 ?kx28 ?ax29 ?ix29 ?lx29 ?cx29 ?kx29 ?ax30 ?ix30 ?lx30 ?cx30 ?kx30 ?ax31 ?pgx31 ?ptx31 ?pcx31 ?lx31 ?cx31 ?kx31 ?ax32 ?ix32 ?lx32 ?cx32 ?kx32 ?ax33 ?ix33 ?lx33 ?cx33 ?kx33 ?ax34 ?tbx34 ?lx34 ?cx34 ?kx34 ?hdx34 ?nkx34 ?ax35 ?lx35 ?cx35 ?kx35 ?ax36 ?ix36 ?lx36 ?cx36 ?kx36 ?ax37 ?lx37 ?cx37 ?kx37 ?ax38 ?lx38 ?cx38 ?kx38 ?ax39 ?ix39 ?lx39 ?cx39 ?kx39 ?kdx39_0 ?ax40 ?lx40 ?cx40 ?kx40 ?ax41 ?lx41 ?cx41 ?kx41 ?ax42 ?lx42 ?cx42 ?kx42 ?ax43 ?lx43 ?cx43 ?kx43 ?ax44 ?ix44 ?lx44 ?cx44 ?kx44 ?ax45 ?ix45 ?lx45 ?cx45 ?kx45 ?ax46 ?lx46 ?cx46 ?kx46 ?ax47 ?lx47 ?cx47 ?kx47 ?z_all ?z_bool ?z_enumerate ?z_int ?z_isinstance ?z_len ?z_list ?z_min ?z_ord ?z_range ?z_str ?z_tuple ?g_DOUBLED_QUOTE ?g_FIGURES ?g_FIRST_PRINTABLE ?g_LAST_PRINTABLE ?g_LETTERS ?g_MOST_DIGITS ?g_MOST_NAME ?g_MOST_PROGRAM ?g_MOST_TEXT ?g_NOT_PRINTABLE ?g_QUOTE ?g_RESERVED ?h_RESERVED ?tn_DOUBLED_QUOTE_QUOTE ?n_BadDecimal ?x_BadDecimal ?kc_BadDecimal ?tc_BadDecimal ?hg_BadDecimal ?hk_BadDecimal ?hs_BadDecimal ?hd_BadDecimal ?ha_BadDecimal ?hm_BadDecimal ?hn_ ?ht_ ?s_BadDecimal_BadDecimal ?s_BadDecimal_BadProgram ?s_BadProgram_BadDecimal ?s_BadProgram_BadProgram
    (case on_Cursor => k_is); (case og_Cursor => k_is); (case oh_Cursor => k_is); (case oo_Cursor => k_is); (case os_Cursor => k_is); (case om_Cursor => k_is)
    (case ok_Cursor => k_is); (case ot_Cursor_0 => k_is); (case ot_Cursor_1 => k_is); (case on_BadProgram => k_is); (case xo_BadProgram => exact ⟨⟨_, _, _, _, _, _, _, _, _, _, _, _, _, _, _, by k_is, by decide +kernel⟩, by k_is, by k_is, by k_is, by k_is⟩); (case xx_BadProgram => exact ⟨by k_is, by k_is, by k_is, by k_is⟩)
    (case xc_BadProgram => exact ⟨by k_is, by k_is, by k_is, by k_is, by k_is, by k_is, by k_is, by k_is⟩); (case ot_BadProgram_0 => k_is); (case ot_BadProgram_1 => k_is); (case ax0 => k_is); (case lx0 => k_is); (case cx0 => k_is)
    (case kx0 => k_is); (case ax1 => k_is); (case lx1 => k_is); (case cx1 => k_is); (case kx1 => k_is); (case ax2 => k_is)
    (case lx2 => k_is); (case cx2 => k_is); (case kx2 => k_is); (case ax3 => k_is); (case lx3 => k_is); (case cx3 => k_is)
    (case kx3 => k_is); (case ax4 => k_is); (case lx4 => k_is); (case cx4 => k_is); (case kx4 => k_is); (case ax5 => k_is)
    (case lx5 => k_is); (case cx5 => k_is); (case kx5 => k_is); (case ax6 => k_is); (case lx6 => k_is); (case cx6 => k_is)
    (case kx6 => k_is); (case ax7 => k_is); (case lx7 => k_is); (case cx7 => k_is); (case kx7 => k_is); (case ax8 => k_is)
    (case lx8 => k_is); (case cx8 => k_is); (case kx8 => k_is); (case ax9 => k_is); (case ix9 => k_is); (case lx9 => k_is)
    (case cx9 => k_is); (case kx9 => k_is); (case tfx9 => k_is); (case ax10 => k_is); (case tbx10 => exact rfl); (case lx10 => k_is)
    (case cx10 => k_is); (case kx10 => k_is); (case hdx10 => exact hT "is_printable" _ _ (by decide +kernel) rfl); (case nkx10 => exact rfl); (case ax11 => k_is); (case lx11 => k_is)
    (case cx11 => k_is); (case kx11 => k_is); (case ax12 => k_is); (case lx12 => k_is); (case cx12 => k_is); (case kx12 => k_is)
    (case ax13 => k_is); (case lx13 => k_is); (case cx13 => k_is); (case kx13 => k_is); (case ax14 => k_is); (case lx14 => k_is)
    (case cx14 => k_is); (case kx14 => k_is); (case ax15 => k_is); (case ix15 => k_is); (case lx15 => k_is); (case cx15 => k_is)
    (case kx15 => k_is); (case ax16 => k_is); (case lx16 => k_is); (case cx16 => k_is); (case kx16 => k_is); (case ax17 => k_is)
    (case lx17 => k_is); (case cx17 => k_is); (case kx17 => k_is); (case ax18 => k_is); (case lx18 => k_is); (case cx18 => k_is)
    (case kx18 => k_is); (case ax19 => k_is); (case lx19 => k_is); (case cx19 => k_is); (case kx19 => k_is); (case ax20 => k_is)
    (case lx20 => k_is); (case cx20 => k_is); (case kx20 => k_is); (case ax21 => k_is); (case lx21 => k_is); (case cx21 => k_is)
    (case kx21 => k_is); (case ax22 => k_is); (case lx22 => k_is); (case cx22 => k_is); (case kx22 => k_is); (case ax23 => k_is)
    (case lx23 => k_is); (case cx23 => k_is); (case kx23 => k_is); (case ax24 => k_is); (case lx24 => k_is); (case cx24 => k_is)
    (case kx24 => k_is); (case ax25 => k_is); (case lx25 => k_is); (case cx25 => k_is); (case kx25 => k_is); (case ax26 => k_is)
    (case ix26 => k_is); (case lx26 => k_is); (case cx26 => k_is); (case kx26 => k_is); (case ax27 => k_is); (case pgx27 => k_is)
    (case ptx27 => k_is); (case pcx27 => k_is); (case lx27 => k_is); (case cx27 => k_is); (case kx27 => k_is); (case ax28 => k_is)
    (case ix28 => k_is); (case lx28 => k_is); (case cx28 => k_is); (case kx28 => k_is); (case ax29 => k_is); (case ix29 => k_is)
    (case lx29 => k_is); (case cx29 => k_is); (case kx29 => k_is); (case ax30 => k_is); (case ix30 => k_is); (case lx30 => k_is)
    (case cx30 => k_is); (case kx30 => k_is); (case ax31 => k_is); (case pgx31 => k_is); (case ptx31 => k_is); (case pcx31 => k_is)
    (case lx31 => k_is); (case cx31 => k_is); (case kx31 => k_is); (case ax32 => k_is); (case ix32 => k_is); (case lx32 => k_is)
    (case cx32 => k_is); (case kx32 => k_is); (case ax33 => k_is); (case ix33 => k_is); (case lx33 => k_is); (case cx33 => k_is)
    (case kx33 => k_is); (case ax34 => k_is); (case tbx34 => exact rfl); (case lx34 => k_is); (case cx34 => k_is); (case kx34 => k_is)
    (case hdx34 => exact hT "_has_only" _ _ (by decide +kernel) rfl); (case nkx34 => exact rfl); (case ax35 => k_is); (case lx35 => k_is); (case cx35 => k_is); (case kx35 => k_is)
    (case ax36 => k_is); (case ix36 => k_is); (case lx36 => k_is); (case cx36 => k_is); (case kx36 => k_is); (case ax37 => k_is)
    (case lx37 => k_is); (case cx37 => k_is); (case kx37 => k_is); (case ax38 => k_is); (case lx38 => k_is); (case cx38 => k_is)
    (case kx38 => k_is); (case ax39 => k_is); (case ix39 => k_is); (case lx39 => k_is); (case cx39 => k_is); (case kx39 => k_is)
    (case kdx39_0 => k_is); (case ax40 => k_is); (case lx40 => k_is); (case cx40 => k_is); (case kx40 => k_is); (case ax41 => k_is)
    (case lx41 => k_is); (case cx41 => k_is); (case kx41 => k_is); (case ax42 => k_is); (case lx42 => k_is); (case cx42 => k_is)
    (case kx42 => k_is); (case ax43 => k_is); (case lx43 => k_is); (case cx43 => k_is); (case kx43 => k_is); (case ax44 => k_is)
    (case ix44 => k_is); (case lx44 => k_is); (case cx44 => k_is); (case kx44 => k_is); (case ax45 => k_is); (case ix45 => k_is)
    (case lx45 => k_is); (case cx45 => k_is); (case kx45 => k_is); (case ax46 => k_is); (case lx46 => k_is); (case cx46 => k_is)
    (case kx46 => k_is); (case ax47 => k_is); (case lx47 => k_is); (case cx47 => k_is); (case kx47 => k_is); (case z_all => k_is)
    (case z_bool => k_is); (case z_enumerate => k_is); (case z_int => k_is); (case z_isinstance => k_is); (case z_len => k_is); (case z_list => k_is)
    (case z_min => k_is); (case z_ord => k_is); (case z_range => k_is); (case z_str => k_is); (case z_tuple => k_is); (case g_DOUBLED_QUOTE => k_is)
    (case g_FIGURES => k_is); (case g_FIRST_PRINTABLE => k_is); (case g_LAST_PRINTABLE => k_is); (case g_LETTERS => k_is); (case g_MOST_DIGITS => k_is); (case g_MOST_NAME => k_is)
    (case g_MOST_PROGRAM => k_is); (case g_MOST_TEXT => k_is); (case g_NOT_PRINTABLE => k_is); (case g_QUOTE => k_is); (case g_RESERVED => k_is); (case h_RESERVED => k_is)
    (case tn_DOUBLED_QUOTE_QUOTE => exact ⟨by decide, by decide, by decide⟩); (case n_BadDecimal => k_is); (case x_BadDecimal => k_exc); (case kc_BadDecimal => k_is); (case tc_BadDecimal => k_is); (case hg_BadDecimal => k_is)
    (case hk_BadDecimal => k_is); (case hs_BadDecimal => k_is); (case hd_BadDecimal => k_is); (case ha_BadDecimal => k_is); (case hm_BadDecimal => k_is); (case hn_ => k_is)
    (case ht_ => k_is); (case s_BadDecimal_BadDecimal => k_is); (case s_BadDecimal_BadProgram => k_is); (case s_BadProgram_BadDecimal => k_is); (case s_BadProgram_BadProgram => k_is)
#print axioms PySem.Challenge.cw_cardwright_k31_cursor_holds
